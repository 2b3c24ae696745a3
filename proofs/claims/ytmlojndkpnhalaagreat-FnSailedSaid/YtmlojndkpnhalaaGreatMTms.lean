import Derived.Test.YtmlojndkpnhalaaGreatMLns2
import Derived.Test.YtmlojndkpnhalaaGreatMFir
import Derived.Test.YtmlojndkpnhalaaGreatMLen2
import Derived.Deep.DeepCutAuto
namespace Go.Proofs.YtmlojndkpnhalaaGreat.Crs
open Go.ChangeShapes Go.WideShapes Go.ChangeAt Go.RowKit Go.PlainAid
open Go.Proofs.YtmlojndkpnhalaaGreat.Num Go.Proofs.YtmlojndkpnhalaaGreat.Kit Go.Proofs.YtmlojndkpnhalaaGreat.Pts Go.Proofs.YtmlojndkpnhalaaGreat.Seg Go.Proofs.YtmlojndkpnhalaaGreat.Div Go.Proofs.YtmlojndkpnhalaaGreat.Root Go.Proofs.YtmlojndkpnhalaaGreat.Rt Go.Proofs.YtmlojndkpnhalaaGreat.Gcd
open Go.Proofs.YtmlojndkpnhalaaGreat.Trk (F3 Fxs Tr trB CrV CL fcV fcC isC crL)
open Go.Proofs.YtmlojndkpnhalaaGreat.Rwk (fiV fiC fdB fi_yes fc_of first_impl l05First_spec vCr_yes put5_ok)
set_option linter.unusedVariables false
set_option linter.unusedSimpArgs false
def tmL (fs : List F3) : List L4 → Int → List Int
  | [], _ => []
  | p :: ps, f => if fiC fs p.a p.b p.c p.d 1 f = 0 then (fiV fs p.a p.b p.c p.d 1 f).t :: tmL fs ps (fiV fs p.a p.b p.c p.d 1 f).t else []
theorem drop_ln {ls : List L4} {j : Nat} (h : j < ls.length) : ls.drop j = ln ls j :: ls.drop (j + 1) := by
  rw [List.drop_eq_getElem_cons h]
  congr 1
  unfold ln; rw [List.getD_eq_getElem?_getD]; simp [h]
theorem tm_yes {fs : List F3} {ls : List L4} {j : Nat} {f : Int} (h : j < ls.length) (g : fiC fs (ln ls j).a (ln ls j).b (ln ls j).c (ln ls j).d 1 f = 0) :
    tmL fs (ls.drop j) f = (fiV fs (ln ls j).a (ln ls j).b (ln ls j).c (ln ls j).d 1 f).t :: tmL fs (ls.drop (j + 1)) (fiV fs (ln ls j).a (ln ls j).b (ln ls j).c (ln ls j).d 1 f).t := by
  rw [drop_ln h]; exact if_pos g
theorem tm_no {fs : List F3} {ls : List L4} {j : Nat} {f : Int} (h : j < ls.length) (g : ¬ fiC fs (ln ls j).a (ln ls j).b (ln ls j).c (ln ls j).d 1 f = 0) : tmL fs (ls.drop j) f = [] := by
  rw [drop_ln h]; exact if_neg g
theorem tm_end {fs : List F3} {ls : List L4} {f : Int} : tmL fs (ls.drop ls.length) f = [] := by rw [List.drop_length]; rfl
theorem tmL_len (fs : List F3) : ∀ (ls : List L4) (f : Int), (tmL fs ls f).length ≤ ls.length
  | [], _ => Nat.le_refl _
  | p :: ps, f => by
    unfold tmL
    split
    · simpa using tmL_len fs ps _
    · simp
theorem OwnZ.above {w : World} {base : Nat} {v : Value} {zs : List Int} (h : OwnZ w base v zs) {B : Nat} (hB : w.heap.size ≤ B) : v.ownBlock ≠ some B := fun e => by have := (World.ownsRow.lt h B e).2; omega
def RelTA (w : World) (base : Nat) (fs : List F3) (ls : List L4) (o f i : Value) (wr : World) : Prop :=
  ∃ (j : Nat) (z : Int) (ts : List Int), i = .int .i64 j ∧ f = .int .i64 z ∧ j ≤ ls.length ∧ ts.length = j ∧ tmL fs ls 0 = ts ++ tmL fs (ls.drop j) z ∧ OwnZ wr base o ts ∧ Ext w wr
set_option maxRecDepth 100000 in
set_option maxHeartbeats 8000000 in
theorem timesAcross_any (a : Option Addr) (cap : Nat) (fs : List F3) (al : Option Addr) (cl : Nat) (ls : List L4) (w : World) (hf : Fxs w a fs) (hl : Lxs w al ls) :
    Calls Tryz.prog 65 #[Tr (.slice a fs.length cap), .slice al ls.length cl] w fun e w' => ∃ v, e = .returned v ∧ OwnZ w' w.heap.size v (tmL fs ls 0) ∧ Ext w w' := by
  have hn := hl.1
  obtain ⟨W0, hW0⟩ : ∃ W0, W0 = w.alloc (.cells #[.slice a fs.length cap] 33) := ⟨_, rfl⟩
  have HW := Lib.hid (show Ext w W0 from hW0 ▸ (Ext.refl w).alloc _)
  have ct : W0.cell? ⟨w.heap.size, 0, none⟩ = some (.slice a fs.length cap) := hW0 ▸ boxed 0 rfl rfl
  have CT := Lib.hid ct
  have HF := Lib.hid (hf.ext HW.out)
  have HL := Lib.hid (hl.ext HW.out)
  have KF := Lib.hid (fun (p q u v f : Int) w' (h : Fxs w' a fs) => first_impl a cap fs p q u v 1 f w' h)
  clear hf hl ct
  obtain ⟨i0, hin, hz0, hz1, hz2⟩ := info_parts int64Info
  go_enter Tryz.func65, Tryz.ntmps65
  go_wp2
  rw [← hW0]
  clear hW0
  go_loopw [5, 6, 13] (fun o f i wr => RelTA W0 W0.heap.size fs ls o f i wr) (fun o f i _ => ls.length - (intOf i).toNat)
  case atStart => exact ⟨0, 0, [], rfl, rfl, Nat.zero_le _, rfl, rfl, World.ownsRow_nil _ _ _ _, Ext.refl _⟩
  case round =>
    obtain ⟨j, z, ts, rfl, rfl, hj, ht, hq, hO, hx⟩ := hrel
    have HQ := Lib.hid hq
    have HT := Lib.hid ht
    have HO := Lib.hid hO
    have HX := Lib.hid hx
    clear hq ht hO hx
    by_cases hj1 : j < ls.length
    · obtain ⟨b, off, rfl, hb⟩ := HL.out.row (by omega)
      obtain ⟨c0, c1, c2, c3⟩ := (hb j hj1).ext HX.out
      have ct : ∀ A, (wr.alloc A).cell? ⟨w.heap.size, 0, none⟩ = some (.slice a fs.length cap) := fun A => ((Ext.refl wr).alloc A).cellOf (HX.out.cellOf CT.out)
      have j0 : (0 : Int) ≤ (j : Int) := by omega
      have j1 : (j : Int) < (ls.length : Int) := by omega
      have T7 : IntKind.i64.wrap ((j : Int) + 1) = (j : Int) + 1 := IntWalk.i64_in _ (by omega)
      have TY := Lib.hid (fun g => tm_yes (fs := fs) (ls := ls) (j := j) (f := z) hj1 g)
      have TN := Lib.hid (fun g => tm_no (fs := fs) (ls := ls) (j := j) (f := z) hj1 g)
      clear hb
      have KJ := Lib.hid (KF.out (ln ls j).a (ln ls j).b (ln ls j).c (ln ls j).d z)
      obtain ⟨L, hL⟩ : ∃ L, L = ln ls j := ⟨_, rfl⟩
      rw [← hL] at c0 c1 c2 c3 TY TN KJ
      clear hL
      obtain ⟨V, hV⟩ : ∃ V, V = fiV fs L.a L.b L.c L.d 1 z := ⟨_, rfl⟩
      obtain ⟨C, hC⟩ : ∃ C, C = fiC fs L.a L.b L.c L.d 1 z := ⟨_, rfl⟩
      rw [← hV] at TY KJ
      rw [← hC] at TY TN KJ
      clear hV hC
      go_wp2_with fail
      refine (KJ.out _ ((HF.out.ext HX.out).ext (by repeat (first | exact Ext.refl _ | assumption | apply Ext.alloc | apply Ext.drew | (refine Ext.trans ?_ (by assumption)) | (refine Ext.setNew ?_ (by simp <;> omega) _))))).mono ?_
      rintro e w2 ⟨rfl, hy⟩
      have hz := ((Ext.refl wr).alloc (.cells #[.int .i64 L.a, .int .i64 L.b, .int .i64 L.c, .int .i64 L.d] 27)).trans (hy.alloc (.cells #[.int .i64 V.t, .int .i64 V.l, .int .i64 V.g, .int .i64 V.x, .int .i64 V.y] 188))
      by_cases g : C = 0
      · have n0 : (C != 0) = false := by simp [g]
        have n1 : (C == 0) = true := by simp [g]
        replace TY := Lib.hid (TY.out g)
        have OA := row_ext (row_ext HO.out hz) ((Ext.refl _).alloc (.cells #[.int .i64 V.t] 2))
        have XA := Lib.hid ((HX.out.trans hz).alloc (.cells #[.int .i64 V.t] 2))
        have eW : (w2.alloc (.cells #[.int .i64 V.t, .int .i64 V.l, .int .i64 V.g, .int .i64 V.x, .int .i64 V.y] 188)).heap.size = w2.heap.size + 1 := by simp
        have CC := Lib.hid (lit_cells (w := w2.alloc (.cells #[.int .i64 V.t, .int .i64 V.l, .int .i64 V.g, .int .i64 V.x, .int .i64 V.y] 188)) (n := w2.heap.size + 1) (u := .int .i64 V.t) (t := 2) eW)
        have P1 := Lib.hid (one_int V.t)
        have P3 := Lib.hid (show ts.length + 1 ≤ maxLen by unfold maxLen; have := HT.out; omega)
        have P4 := Lib.hid (show (ts.length + 1) * 8 ≤ 140737488355328 by have := HT.out; omega)
        have zA := Lib.hid (Ext.size XA.out)
        have E5 := Lib.hid (show cellsZ (ts ++ [V.t]) = cellsZ ts ++ [.int .i64 V.t] by simp [cellsZ])
        have L5 := Lib.hid (show (ts ++ [V.t]).length = ts.length + 1 by simp)
        have zz := Lib.hid (show wr.heap.size ≤ w2.heap.size by have := Ext.size hy; simp at this; omega)
        clear hy eW TN g hz
        go_wp2_with (at_builtin; refine wpList_append_own _ rfl _ _ 38 rfl W0.heap.size 2 i0 (.int .i64 0) 1 8 Tryz.underlying38 hin hz0 hz1 hz2 rfl (by decide) _ ts.length _ rfl OA ⟨w2.heap.size + 1, 0, none⟩ 1 1 [.int .i64 V.t] rfl rfl CC.out P1.out P3.out P4.out zA.out ?_; intro v1 w5 hown hgrow hnil; have O5 := Lib.hid (show OwnZ w5 W0.heap.size v1 (ts ++ [V.t]) by unfold OwnZ; rw [L5.out, E5.out]; exact hown); have X5 := Lib.hid (row_grown (w0 := W0) OA hgrow (Nat.le_refl _) XA.out); have c9 : w5.cell? ⟨w2.heap.size, 0, none⟩ = some (.int .i64 V.t) := World.grownBy.cell hgrow (((Ext.refl _).alloc (.cells #[.int .i64 V.t] 2)).cellOf (boxed 0 rfl rfl)) (fun e => OwnZ.above HO.out zz.out e.symm); clear hown hgrow hnil OA)
        go_roundw
        case rel => exact ⟨j + 1, V.t, ts ++ [V.t], by go_num, rfl, by omega, by rw [L5.out, HT.out], by rw [HQ.out, TY.out]; simp, O5.out, X5.out⟩
        case measure => simp [intOf]; omega
      · have n0 : (C != 0) = true := by simp [g]
        have n1 : (C == 0) = false := beq_eq_false_iff_ne.2 g
        have HE := Lib.hid (show tmL fs ls 0 = ts by rw [HQ.out, TN.out g]; simp)
        have O5 := row_ext HO.out hz
        have X5 := HX.out.trans hz
        clear hz TY TN g
        go_wp2
        go_ret
        exact ⟨_, rfl, by rw [HE.out]; exact row_mono O5 (Ext.size HW.out), HW.out.trans X5⟩
    · obtain rfl : j = ls.length := by omega
      have HE := Lib.hid (show tmL fs ls 0 = ts by rw [HQ.out, tm_end]; simp)
      go_wp2
      go_ret
      exact ⟨_, rfl, by rw [HE.out]; exact row_mono HO.out (Ext.size HW.out), HW.out.trans HX.out⟩
end Go.Proofs.YtmlojndkpnhalaaGreat.Crs
namespace Go.Proofs.YtmlojndkpnhalaaGreat.Crs
open Go.ChangeShapes Go.WideShapes Go.ChangeAt Go.RowKit Go.PlainAid
open Go.Proofs.YtmlojndkpnhalaaGreat.Num Go.Proofs.YtmlojndkpnhalaaGreat.Kit Go.Proofs.YtmlojndkpnhalaaGreat.Pts Go.Proofs.YtmlojndkpnhalaaGreat.Seg Go.Proofs.YtmlojndkpnhalaaGreat.Div Go.Proofs.YtmlojndkpnhalaaGreat.Root Go.Proofs.YtmlojndkpnhalaaGreat.Rt Go.Proofs.YtmlojndkpnhalaaGreat.Gcd
open Go.Proofs.YtmlojndkpnhalaaGreat.Trk (F3 Fxs Tr trB CrV CL fcV fcC isC crL)
open Go.Proofs.YtmlojndkpnhalaaGreat.Rwk (fiV fiC fdB fi_yes fc_of first_impl l05First_spec vCr_yes put5_ok)
set_option linter.unusedVariables false
set_option linter.unusedSimpArgs false
theorem fd_fi {fs : List F3} {p : L4} {f : Int} (hv : trB fs = true) (hs : sgB p.a p.b p.c p.d = true) :
    fiV fs p.a p.b p.c p.d 1 f = fcV (crL fs p.a p.b p.c p.d (fs.length - 1)) 1 f ∧ fdB (crL fs p.a p.b p.c p.d (fs.length - 1)) 1 f = decide (fiC fs p.a p.b p.c p.d 1 f = 0) := by
  obtain ⟨h1, h2⟩ := fi_yes (f := f) (vCr_yes hv hs) (.inl rfl)
  refine ⟨h1, ?_⟩
  rw [h2, fc_of]
  cases fdB (crL fs p.a p.b p.c p.d (fs.length - 1)) 1 f <;> simp
def RelTS (w : World) (base : Nat) (fs : List F3) (ls : List L4) (o f i : Value) (wr : World) : Prop :=
  ∃ (j : Nat) (z : Int) (ts : List Int), i = .int .i64 j ∧ f = .int .i64 z ∧ j ≤ ls.length ∧ ts.length = j ∧ tmL fs ls 0 = ts ++ tmL fs (ls.drop j) z ∧ OwnZ wr base o ts ∧ Ext w wr
set_option maxRecDepth 100000 in
set_option maxHeartbeats 8000000 in
theorem l06Times_spec (l k : L4) (a : Option Addr) (cap : Nat) (ms : List M5) (at_ : Option Addr) (ct : Nat) (fs : List F3) (w : World) (hf : Mks w a ms) (ht : Fxs w at_ fs) (hq : crB l k ms = true) (hl : lsB l k ms = true) (hv : trB fs = true) :
    Calls Tryz.prog 63 #[CV l k (.slice a ms.length cap), Tr (.slice at_ fs.length ct)] w fun e w' => ∃ v, e = .returned v ∧ OwnZ w' w.heap.size v (tmL fs (stS l k ms) 0) ∧ Ext w w' := by
  have h8 := cr_eight hq
  have HS := Lib.hid (st_ok hq hl)
  have SL := Lib.hid (stS_len l k ms)
  have KL := Lib.hid (fun w hf => l06Lines_spec l k a cap ms w hf hq)
  have KF := Lib.hid (fun (p : L4) (f : Int) w' (h : Fxs w' at_ fs) (hs : sgB p.a p.b p.c p.d = true) => l05First_spec at_ ct fs p.a p.b p.c p.d 1 f w' h hv hs)
  have KD := Lib.hid (fun (p : L4) (f : Int) (hs : sgB p.a p.b p.c p.d = true) => fd_fi (f := f) hv hs)
  obtain ⟨W0, hW0⟩ : ∃ W0, W0 = (w.alloc (.cells (cellsC l k (.slice a ms.length cap)).toArray 30)).alloc (.cells #[.slice at_ fs.length ct] 33) := ⟨_, rfl⟩
  have HW := Lib.hid (show Ext w W0 from hW0 ▸ ((Ext.refl w).alloc _).alloc _)
  have BB := Lib.hid (show Box W0 w.heap.size (cellsC l k (.slice a ms.length cap)) from hW0 ▸ (Box.new rfl).alloc _)
  have ctt : W0.cell? ⟨w.heap.size + 1, 0, none⟩ = some (.slice at_ fs.length ct) := hW0 ▸ boxed 0 rfl (by simp)
  have CT := Lib.hid ctt
  have HF := Lib.hid (hf.ext HW.out)
  have HT := Lib.hid (ht.ext HW.out)
  clear hf ht ctt
  obtain ⟨i0, hin, hz0, hz1, hz2⟩ := info_parts int64Info
  go_enter Tryz.func63, Tryz.ntmps63
  go_wp2_with fail
  rw [← hW0]
  clear hW0
  refine (KL.out _ HF.out).mono ?_
  rintro e w1 ⟨v, rfl, hO, hx⟩
  have hO1 := hO hl
  obtain ⟨al, cl, rfl, hLx⟩ := OwnL.lxs hO1 (by rw [SL.out]; omega)
  have HL := Lib.hid hLx
  have X1 := Lib.hid hx
  have SN : (stS l k ms).length ≤ 1000 := by rw [SL.out]; omega
  clear hO hO1 hLx hx
  obtain ⟨ls, hls⟩ : ∃ ls, ls = stS l k ms := ⟨_, rfl⟩
  rw [← hls] at HS HL SN ⊢
  have HLS := Lib.hid hls
  clear hls SL
  have O0 := Lib.hid (show OwnZ (w1.alloc (.cells #[] 2)) w1.heap.size (.slice (some ⟨w1.heap.size, 0, none⟩) 0 0) [] from World.ownsRow_lit (base := w1.heap.size) (e := 2) (size := 1) w1 #[] 0 (Nat.le_refl _) (by unfold maxLen; omega) rfl)
  have E0 := Lib.hid ((Ext.refl w1).alloc (.cells #[] 2))
  go_wp2
  go_loopw [7, 8, 9] (fun o f i wr => RelTS w1 w1.heap.size fs ls o f i wr) (fun o f i _ => ls.length - (intOf i).toNat)
  case atStart => exact ⟨0, 0, [], rfl, rfl, Nat.zero_le _, rfl, rfl, O0.out, E0.out⟩
  case round =>
    obtain ⟨j, z, ts, rfl, rfl, hj, ht, hq2, hO, hx⟩ := hrel
    have HQ := Lib.hid hq2
    have HN := Lib.hid ht
    have HO := Lib.hid hO
    have HX := Lib.hid hx
    clear hq2 ht hO hx
    by_cases hj1 : j < ls.length
    · obtain ⟨b, off, rfl, hb⟩ := HL.out.row (by omega)
      obtain ⟨c0, c1, c2, c3⟩ := (hb j hj1).ext HX.out
      have ct0 := HX.out.cellOf (X1.out.cellOf CT.out)
      have j0 : (0 : Int) ≤ (j : Int) := by omega
      have j1 : (j : Int) < (ls.length : Int) := by omega
      have T7 : IntKind.i64.wrap ((j : Int) + 1) = (j : Int) + 1 := IntWalk.i64_in _ (by omega)
      have TY := Lib.hid (fun g => tm_yes (fs := fs) (ls := ls) (j := j) (f := z) hj1 g)
      have TN := Lib.hid (fun g => tm_no (fs := fs) (ls := ls) (j := j) (f := z) hj1 g)
      have hs := HS.out _ (List.mem_of_getElem? (ln_at hj1))
      obtain ⟨d1, d2⟩ := KD.out _ z hs
      have KJ := Lib.hid (fun w' h => KF.out _ z w' h hs)
      rw [← d1, d2] at KJ
      clear hb hs d1 d2
      obtain ⟨L, hL⟩ : ∃ L, L = ln ls j := ⟨_, rfl⟩
      rw [← hL] at c0 c1 c2 c3 TY TN KJ
      clear hL
      obtain ⟨V, hV⟩ : ∃ V, V = fiV fs L.a L.b L.c L.d 1 z := ⟨_, rfl⟩
      obtain ⟨C, hC⟩ : ∃ C, C = fiC fs L.a L.b L.c L.d 1 z := ⟨_, rfl⟩
      rw [← hV] at TY KJ
      rw [← hC] at TY TN KJ
      clear hV hC
      have e0 : ∀ w', Ext wr w' → w'.cell? ⟨b, off + j * 4, none⟩ = some (.int .i64 L.a) := fun w' h => h.cellOf c0
      have e1 : ∀ w', Ext wr w' → w'.cell? ⟨b, off + j * 4 + 1, none⟩ = some (.int .i64 L.b) := fun w' h => h.cellOf c1
      have e2 : ∀ w', Ext wr w' → w'.cell? ⟨b, off + j * 4 + 2, none⟩ = some (.int .i64 L.c) := fun w' h => h.cellOf c2
      have e3 : ∀ w', Ext wr w' → w'.cell? ⟨b, off + j * 4 + 3, none⟩ = some (.int .i64 L.d) := fun w' h => h.cellOf c3
      have e4 : ∀ w', Ext wr w' → w'.cell? ⟨w.heap.size + 1, 0, none⟩ = some (.slice at_ fs.length ct) := fun w' h => h.cellOf ct0
      go_upto_region 7 with fail
      go_cut [10, 11] (fun s t wx => (∃ B, s = .pointer (some ⟨B, 0, none⟩) ∧ wr.heap.size ≤ B ∧ Box wx B (CL V)) ∧ t = .bool (decide (C = 0)) ∧ Ext wr wx)
      case first =>
        clear c0 c1 c2 c3 ct0
        refine wp_region_held_drew (S := fun w' => Ext wr w') (by kernel_rfl) (by (try dsimp only); exact Ext.drew (Ext.refl wr)) (fun hHeld => ?_)
        have hE : Ext wr wr.drew := Ext.drew (Ext.refl wr)
        obtain ⟨V0, hV0⟩ : ∃ V0, V0 = wr.drew := ⟨_, rfl⟩
        rw [← hV0] at hE hHeld ⊢
        clear hV0
        refine Ord.K 0 25 ?_; refine Ord.K 1 26 ?_; refine Ord.K 2 27 ?_; refine Ord.K 5 30 ?_; refine Ord.K 3 28 ?_; refine Ord.K 4 29 ?_
        refine wpAnyH_ready (rs := [6, 10]) (by kernel_rfl) (by simp) ?_
        refine (AllReadyH.cons rfl (fun K hK => ?_) (AllReadyH.cons rfl (fun K hK => ?_) AllReadyH.nil))
        · go_simp
          go_at_call 116
          refine (KJ.out _ ((HT.out.ext (X1.out.trans HX.out)).ext hE)).mono ?_
          rintro e V1 ⟨rfl, hy⟩
          go_wp2_with fail
          have zy := Ext.size hy
          have hE' := hE.trans hy
          refine hK.out _ _ hE' (fun hHeld => ?_)
          clear hK K
          (try simp only [Act.put, Ord.a, Ord.b, Ord.c])
          replace hE := hE'
          clear hE' hy
          refine Ord.K 7 24 ?_; refine Ord.K 8 32 ?_; refine Ord.K 9 33 ?_
          refine wpAnyH_ready (rs := [10]) (by kernel_rfl) (by simp) ?_
          refine (AllReadyH.cons rfl (fun K hK => ?_) AllReadyH.nil)
          go_simp
          have hy : Ext V1 (V1.alloc (.cells #[.int .i64 0, .int .i64 0, .int .i64 0, .int .i64 0, .int .i64 0] 188)) := (Ext.refl V1).alloc _
          have hE' := hE.trans hy
          refine hK.out _ _ hE' (fun hHeld => ?_)
          clear hK K
          (try simp only [Act.put, Ord.a, Ord.b, Ord.c])
          have P10 : Box (V1.alloc (.cells #[.int .i64 0, .int .i64 0, .int .i64 0, .int .i64 0, .int .i64 0] 188)) V1.heap.size [.int .i64 0, .int .i64 0, .int .i64 0, .int .i64 0, .int .i64 0] := Box.new (vs := [.int .i64 0, .int .i64 0, .int .i64 0, .int .i64 0, .int .i64 0]) rfl
          have z10 := Ext.size hE
          have y10 : V1.heap.size < (V1.alloc (.cells #[.int .i64 0, .int .i64 0, .int .i64 0, .int .i64 0, .int .i64 0] 188)).heap.size := by simp
          replace hE := hE'
          clear hE' hy
          generalize V1.alloc (.cells #[.int .i64 0, .int .i64 0, .int .i64 0, .int .i64 0, .int .i64 0] 188) = V2 at *
          refine wpAnyH_ready (rs := [11]) (by kernel_rfl) (by simp) ?_
          refine (AllReadyH.cons rfl (fun K hK => ?_) AllReadyH.nil)
          obtain ⟨⟨r0, r1, r2, r3, r4⟩, s0, s1, s2, s3, s4⟩ := P10.five
          go_simp
          have hE' : Ext wr (((((V2.setCell ⟨V1.heap.size, 0, none⟩ (.int .i64 V.t)).setCell ⟨V1.heap.size, 1, none⟩ (.int .i64 V.l)).setCell ⟨V1.heap.size, 2, none⟩ (.int .i64 V.g)).setCell ⟨V1.heap.size, 3, none⟩ (.int .i64 V.x)).setCell ⟨V1.heap.size, 4, none⟩ (.int .i64 V.y)) := (((((hE.setNew (by first | omega | (simp; omega) | simp) _).setNew (by first | omega | (simp; omega) | simp) _).setNew (by first | omega | (simp; omega) | simp) _).setNew (by first | omega | (simp; omega) | simp) _).setNew (by first | omega | (simp; omega) | simp) _)
          refine hK.out _ _ hE' (fun hHeld => ?_)
          clear hK K r0 r1 r2 r3 r4 s0 s1 s2 s3 s4
          (try simp only [Act.put, Ord.a, Ord.b, Ord.c])
          replace P10 := P10.set5 (a := .int .i64 V.t) (b := .int .i64 V.l) (c := .int .i64 V.g) (d := .int .i64 V.x) (e := .int .i64 V.y)
          replace hE := hE'
          clear hE'
          generalize (((((V2.setCell ⟨V1.heap.size, 0, none⟩ (.int .i64 V.t)).setCell ⟨V1.heap.size, 1, none⟩ (.int .i64 V.l)).setCell ⟨V1.heap.size, 2, none⟩ (.int .i64 V.g)).setCell ⟨V1.heap.size, 3, none⟩ (.int .i64 V.x)).setCell ⟨V1.heap.size, 4, none⟩ (.int .i64 V.y)) = V3 at *
          refine Ord.K 12 11 ?_
          refine wpAnyH_done (by kernel_rfl) ?_ _
          go_wp2_with fail; go_meet; exact ⟨⟨_, rfl, by omega, P10⟩, rfl, hE⟩
        · go_simp
          have hy : Ext V0 (V0.alloc (.cells #[.int .i64 0, .int .i64 0, .int .i64 0, .int .i64 0, .int .i64 0] 188)) := (Ext.refl V0).alloc _
          have hE' := hE.trans hy
          refine hK.out _ _ hE' (fun hHeld => ?_)
          clear hK K
          (try simp only [Act.put, Ord.a, Ord.b, Ord.c])
          have P10 : Box (V0.alloc (.cells #[.int .i64 0, .int .i64 0, .int .i64 0, .int .i64 0, .int .i64 0] 188)) V0.heap.size [.int .i64 0, .int .i64 0, .int .i64 0, .int .i64 0, .int .i64 0] := Box.new (vs := [.int .i64 0, .int .i64 0, .int .i64 0, .int .i64 0, .int .i64 0]) rfl
          have z10 := Ext.size hE
          have y10 : V0.heap.size < (V0.alloc (.cells #[.int .i64 0, .int .i64 0, .int .i64 0, .int .i64 0, .int .i64 0] 188)).heap.size := by simp
          replace hE := hE'
          clear hE' hy
          generalize V0.alloc (.cells #[.int .i64 0, .int .i64 0, .int .i64 0, .int .i64 0, .int .i64 0] 188) = V1 at *
          refine wpAnyH_ready (rs := [6]) (by kernel_rfl) (by simp) ?_
          refine (AllReadyH.cons rfl (fun K hK => ?_) AllReadyH.nil)
          go_simp
          go_at_call 116
          refine (KJ.out _ ((HT.out.ext (X1.out.trans HX.out)).ext hE)).mono ?_
          rintro e V2 ⟨rfl, hy⟩
          go_wp2_with fail
          have zy := Ext.size hy
          have hE' := hE.trans hy
          refine hK.out _ _ hE' (fun hHeld => ?_)
          clear hK K
          (try simp only [Act.put, Ord.a, Ord.b, Ord.c])
          replace P10 := P10.ext hy
          replace hE := hE'
          clear hE' hy
          refine Ord.K 7 24 ?_; refine Ord.K 8 32 ?_; refine Ord.K 9 33 ?_
          refine wpAnyH_ready (rs := [11]) (by kernel_rfl) (by simp) ?_
          refine (AllReadyH.cons rfl (fun K hK => ?_) AllReadyH.nil)
          obtain ⟨⟨r0, r1, r2, r3, r4⟩, s0, s1, s2, s3, s4⟩ := P10.five
          go_simp
          have hE' : Ext wr (((((V2.setCell ⟨V0.heap.size, 0, none⟩ (.int .i64 V.t)).setCell ⟨V0.heap.size, 1, none⟩ (.int .i64 V.l)).setCell ⟨V0.heap.size, 2, none⟩ (.int .i64 V.g)).setCell ⟨V0.heap.size, 3, none⟩ (.int .i64 V.x)).setCell ⟨V0.heap.size, 4, none⟩ (.int .i64 V.y)) := (((((hE.setNew (by first | omega | (simp; omega) | simp) _).setNew (by first | omega | (simp; omega) | simp) _).setNew (by first | omega | (simp; omega) | simp) _).setNew (by first | omega | (simp; omega) | simp) _).setNew (by first | omega | (simp; omega) | simp) _)
          refine hK.out _ _ hE' (fun hHeld => ?_)
          clear hK K r0 r1 r2 r3 r4 s0 s1 s2 s3 s4
          (try simp only [Act.put, Ord.a, Ord.b, Ord.c])
          replace P10 := P10.set5 (a := .int .i64 V.t) (b := .int .i64 V.l) (c := .int .i64 V.g) (d := .int .i64 V.x) (e := .int .i64 V.y)
          replace hE := hE'
          clear hE'
          generalize (((((V2.setCell ⟨V0.heap.size, 0, none⟩ (.int .i64 V.t)).setCell ⟨V0.heap.size, 1, none⟩ (.int .i64 V.l)).setCell ⟨V0.heap.size, 2, none⟩ (.int .i64 V.g)).setCell ⟨V0.heap.size, 3, none⟩ (.int .i64 V.x)).setCell ⟨V0.heap.size, 4, none⟩ (.int .i64 V.y)) = V3 at *
          refine Ord.K 12 11 ?_
          refine wpAnyH_done (by kernel_rfl) ?_ _
          go_wp2_with fail; go_meet; exact ⟨⟨_, rfl, by omega, P10⟩, rfl, hE⟩
      case rest =>
        obtain ⟨⟨B, rfl, hB, PB⟩, rfl, hz⟩ := hcut
        have q0 := (PB 0 _ rfl).1
        clear e0 e1 e2 e3 e4 c0 c1 c2 c3 ct0 PB
        by_cases g : C = 0
        · rw [decide_eq_true g]
          replace TY := Lib.hid (TY.out g)
          have OA := row_ext (row_ext HO.out hz) ((Ext.refl _).alloc (.cells #[.int .i64 V.t] 2))
          have XA := Lib.hid ((HX.out.trans hz).alloc (.cells #[.int .i64 V.t] 2))
          have CC := Lib.hid (lit_cells (w := wc) (n := wc.heap.size) (u := .int .i64 V.t) (t := 2) rfl)
          have P1 := Lib.hid (one_int V.t)
          have P3 := Lib.hid (show ts.length + 1 ≤ maxLen by unfold maxLen; have := HN.out; omega)
          have P4 := Lib.hid (show (ts.length + 1) * 8 ≤ 140737488355328 by have := HN.out; omega)
          have zA := Lib.hid (Ext.size XA.out)
          have E5 := Lib.hid (show cellsZ (ts ++ [V.t]) = cellsZ ts ++ [.int .i64 V.t] by simp [cellsZ])
          have L5 := Lib.hid (show (ts ++ [V.t]).length = ts.length + 1 by simp)
          have q1 := Lib.hid (((Ext.refl wc).alloc (.cells #[.int .i64 V.t] 2)).cellOf q0)
          clear TN g
          go_wp2_with (at_builtin; refine wpList_append_own _ rfl _ _ 38 rfl w1.heap.size 2 i0 (.int .i64 0) 1 8 Tryz.underlying38 hin hz0 hz1 hz2 rfl (by decide) _ ts.length _ rfl OA ⟨wc.heap.size, 0, none⟩ 1 1 [.int .i64 V.t] rfl rfl CC.out P1.out P3.out P4.out zA.out ?_; intro v1 w5 hown hgrow hnil; have O5 := Lib.hid (show OwnZ w5 w1.heap.size v1 (ts ++ [V.t]) by unfold OwnZ; rw [L5.out, E5.out]; exact hown); have X5 := Lib.hid (row_grown (w0 := w1) OA hgrow (Nat.le_refl _) XA.out); have c9 : w5.cell? ⟨B, 0, none⟩ = some (.int .i64 V.t) := World.grownBy.cell hgrow q1.out (fun e => OwnZ.above HO.out hB e.symm); clear hown hgrow hnil OA)
          go_roundw
          case rel => exact ⟨j + 1, V.t, ts ++ [V.t], by go_num, rfl, by omega, by rw [L5.out, HN.out], by rw [HQ.out, TY.out]; simp, O5.out, X5.out⟩
          case measure => simp [intOf]; omega
        · rw [decide_eq_false g]
          have HE := Lib.hid (show tmL fs ls 0 = ts by rw [HQ.out, TN.out g]; simp)
          have O5 := row_ext HO.out hz
          have X5 := HX.out.trans hz
          clear hz TY TN g
          go_wp2
          go_ret
          exact ⟨_, rfl, by rw [← HLS.out, HE.out]; exact row_mono O5 (Ext.size (HW.out.trans X1.out)), HW.out.trans (X1.out.trans X5)⟩
    · obtain rfl : j = ls.length := by omega
      have HE := Lib.hid (show tmL fs ls 0 = ts by rw [HQ.out, tm_end]; simp)
      go_wp2
      go_ret
      exact ⟨_, rfl, by rw [← HLS.out, HE.out]; exact row_mono HO.out (Ext.size (HW.out.trans X1.out)), HW.out.trans (X1.out.trans HX.out)⟩
end Go.Proofs.YtmlojndkpnhalaaGreat.Crs
