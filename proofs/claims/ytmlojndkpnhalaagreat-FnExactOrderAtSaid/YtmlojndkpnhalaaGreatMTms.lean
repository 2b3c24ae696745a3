import Derived.Test.YtmlojndkpnhalaaGreatMLns2
import Derived.Test.YtmlojndkpnhalaaGreatMFir
import Derived.Test.YtmlojndkpnhalaaGreatMLen2
import Derived.Deep.DeepCutAuto
import Derived.Test.YtmlojndkpnhalaaGreatMTrk
import Derived.Laws.EntriesVeiled
namespace Go.Proofs.YtmlojndkpnhalaaGreat.Crs
open Go.ChangeShapes Go.WideShapes Go.ChangeAt Go.RowKit Go.PlainAid
open Go.Proofs.YtmlojndkpnhalaaGreat.Num Go.Proofs.YtmlojndkpnhalaaGreat.Kit Go.Proofs.YtmlojndkpnhalaaGreat.Pts Go.Proofs.YtmlojndkpnhalaaGreat.Seg Go.Proofs.YtmlojndkpnhalaaGreat.Div Go.Proofs.YtmlojndkpnhalaaGreat.Root Go.Proofs.YtmlojndkpnhalaaGreat.Rt Go.Proofs.YtmlojndkpnhalaaGreat.Gcd
open Go.Proofs.YtmlojndkpnhalaaGreat.Trk (F3 Fxs Tr trB CrV CL fcV fcC isC crL)
open Go.Proofs.YtmlojndkpnhalaaGreat.Rwk (fiV fiC fdB fi_yes fc_of first_impl l05First_spec vCr_yes put5_ok)
set_option linter.unusedVariables false
set_option linter.unusedSimpArgs false
def tmL (fs : List F3) : List L4 → Int → List Int
  | [], _ => []
  | p :: ps, f => if fiC fs p.a p.b p.c p.d 1 f = 0 then (fiV fs p.a p.b p.c p.d 1 f).t :: tmL fs ps (fiV fs p.a p.b p.c p.d 1 f).t else []
theorem drop_ln {ls : List L4} {j : Nat} (h : j < ls.length) : ls.drop j = ln ls j :: ls.drop (j + 1) := by
  rw [List.drop_eq_getElem_cons h]
  congr 1
  unfold ln; rw [List.getD_eq_getElem?_getD]; simp [h]
theorem tm_yes {fs : List F3} {ls : List L4} {j : Nat} {f : Int} (h : j < ls.length) (g : fiC fs (ln ls j).a (ln ls j).b (ln ls j).c (ln ls j).d 1 f = 0) :
    tmL fs (ls.drop j) f = (fiV fs (ln ls j).a (ln ls j).b (ln ls j).c (ln ls j).d 1 f).t :: tmL fs (ls.drop (j + 1)) (fiV fs (ln ls j).a (ln ls j).b (ln ls j).c (ln ls j).d 1 f).t := by
  rw [drop_ln h]; exact if_pos g
theorem tm_no {fs : List F3} {ls : List L4} {j : Nat} {f : Int} (h : j < ls.length) (g : ¬ fiC fs (ln ls j).a (ln ls j).b (ln ls j).c (ln ls j).d 1 f = 0) : tmL fs (ls.drop j) f = [] := by
  rw [drop_ln h]; exact if_neg g
theorem tm_end {fs : List F3} {ls : List L4} {f : Int} : tmL fs (ls.drop ls.length) f = [] := by rw [List.drop_length]; rfl
theorem tmL_len (fs : List F3) : ∀ (ls : List L4) (f : Int), (tmL fs ls f).length ≤ ls.length
  | [], _ => Nat.le_refl _
  | p :: ps, f => by
    unfold tmL
    split
    · simpa using tmL_len fs ps _
    · simp
theorem OwnZ.above {w : World} {base : Nat} {v : Value} {zs : List Int} (h : OwnZ w base v zs) {B : Nat} (hB : w.heap.size ≤ B) : v.ownBlock ≠ some B := fun e => by have := (World.ownsRow.lt h B e).2; omega
def RelTA (w : World) (base : Nat) (fs : List F3) (ls : List L4) (o f i : Value) (wr : World) : Prop :=
  ∃ (j : Nat) (z : Int) (ts : List Int), i = .int .i64 j ∧ f = .int .i64 z ∧ j ≤ ls.length ∧ ts.length = j ∧ tmL fs ls 0 = ts ++ tmL fs (ls.drop j) z ∧ OwnZ wr base o ts ∧ Ext w wr
set_option maxRecDepth 100000 in
set_option maxHeartbeats 8000000 in
theorem timesAcross_any (a : Option Addr) (cap : Nat) (fs : List F3) (al : Option Addr) (cl : Nat) (ls : List L4) (w : World) (hf : Fxs w a fs) (hl : Lxs w al ls) :
    Calls Tryz.prog 65 #[Tr (.slice a fs.length cap), .slice al ls.length cl] w fun e w' => ∃ v, e = .returned v ∧ OwnZ w' w.heap.size v (tmL fs ls 0) ∧ Ext w w' := by
  have hn := hl.1
  obtain ⟨W0, hW0⟩ : ∃ W0, W0 = w.alloc (.cells #[.slice a fs.length cap] 33) := ⟨_, rfl⟩
  have HW := Lib.hid (show Ext w W0 from hW0 ▸ (Ext.refl w).alloc _)
  have ct : W0.cell? ⟨w.heap.size, 0, none⟩ = some (.slice a fs.length cap) := hW0 ▸ boxed 0 rfl rfl
  have CT := Lib.hid ct
  have HF := Lib.hid (hf.ext HW.out)
  have HL := Lib.hid (hl.ext HW.out)
  have KF := Lib.hid (fun (p q u v f : Int) w' (h : Fxs w' a fs) => first_impl a cap fs p q u v 1 f w' h)
  clear hf hl ct
  obtain ⟨i0, hin, hz0, hz1, hz2⟩ := info_parts int64Info
  go_enter Tryz.func65, Tryz.ntmps65
  go_wp2
  rw [← hW0]
  clear hW0
  go_loopw [5, 6, 13] (fun o f i wr => RelTA W0 W0.heap.size fs ls o f i wr) (fun o f i _ => ls.length - (intOf i).toNat)
  case atStart => exact ⟨0, 0, [], rfl, rfl, Nat.zero_le _, rfl, rfl, World.ownsRow_nil _ _ _ _, Ext.refl _⟩
  case round =>
    obtain ⟨j, z, ts, rfl, rfl, hj, ht, hq, hO, hx⟩ := hrel
    have HQ := Lib.hid hq
    have HT := Lib.hid ht
    have HO := Lib.hid hO
    have HX := Lib.hid hx
    clear hq ht hO hx
    by_cases hj1 : j < ls.length
    · obtain ⟨b, off, rfl, hb⟩ := HL.out.row (by omega)
      obtain ⟨c0, c1, c2, c3⟩ := (hb j hj1).ext HX.out
      have ct : ∀ A, (wr.alloc A).cell? ⟨w.heap.size, 0, none⟩ = some (.slice a fs.length cap) := fun A => ((Ext.refl wr).alloc A).cellOf (HX.out.cellOf CT.out)
      have j0 : (0 : Int) ≤ (j : Int) := by omega
      have j1 : (j : Int) < (ls.length : Int) := by omega
      have T7 : IntKind.i64.wrap ((j : Int) + 1) = (j : Int) + 1 := IntWalk.i64_in _ (by omega)
      have TY := Lib.hid (fun g => tm_yes (fs := fs) (ls := ls) (j := j) (f := z) hj1 g)
      have TN := Lib.hid (fun g => tm_no (fs := fs) (ls := ls) (j := j) (f := z) hj1 g)
      clear hb
      have KJ := Lib.hid (KF.out (ln ls j).a (ln ls j).b (ln ls j).c (ln ls j).d z)
      obtain ⟨L, hL⟩ : ∃ L, L = ln ls j := ⟨_, rfl⟩
      rw [← hL] at c0 c1 c2 c3 TY TN KJ
      clear hL
      obtain ⟨V, hV⟩ : ∃ V, V = fiV fs L.a L.b L.c L.d 1 z := ⟨_, rfl⟩
      obtain ⟨C, hC⟩ : ∃ C, C = fiC fs L.a L.b L.c L.d 1 z := ⟨_, rfl⟩
      rw [← hV] at TY KJ
      rw [← hC] at TY TN KJ
      clear hV hC
      go_wp2_with fail
      refine (KJ.out _ ((HF.out.ext HX.out).ext (by repeat (first | exact Ext.refl _ | assumption | apply Ext.alloc | apply Ext.drew | (refine Ext.trans ?_ (by assumption)) | (refine Ext.setNew ?_ (by simp <;> omega) _))))).mono ?_
      rintro e w2 ⟨rfl, hy⟩
      have hz := ((Ext.refl wr).alloc (.cells #[.int .i64 L.a, .int .i64 L.b, .int .i64 L.c, .int .i64 L.d] 27)).trans (hy.alloc (.cells #[.int .i64 V.t, .int .i64 V.l, .int .i64 V.g, .int .i64 V.x, .int .i64 V.y] 188))
      by_cases g : C = 0
      · have n0 : (C != 0) = false := by simp [g]
        have n1 : (C == 0) = true := by simp [g]
        replace TY := Lib.hid (TY.out g)
        have OA := row_ext (row_ext HO.out hz) ((Ext.refl _).alloc (.cells #[.int .i64 V.t] 2))
        have XA := Lib.hid ((HX.out.trans hz).alloc (.cells #[.int .i64 V.t] 2))
        have eW : (w2.alloc (.cells #[.int .i64 V.t, .int .i64 V.l, .int .i64 V.g, .int .i64 V.x, .int .i64 V.y] 188)).heap.size = w2.heap.size + 1 := by simp
        have CC := Lib.hid (lit_cells (w := w2.alloc (.cells #[.int .i64 V.t, .int .i64 V.l, .int .i64 V.g, .int .i64 V.x, .int .i64 V.y] 188)) (n := w2.heap.size + 1) (u := .int .i64 V.t) (t := 2) eW)
        have P1 := Lib.hid (one_int V.t)
        have P3 := Lib.hid (show ts.length + 1 ≤ maxLen by unfold maxLen; have := HT.out; omega)
        have P4 := Lib.hid (show (ts.length + 1) * 8 ≤ 140737488355328 by have := HT.out; omega)
        have zA := Lib.hid (Ext.size XA.out)
        have E5 := Lib.hid (show cellsZ (ts ++ [V.t]) = cellsZ ts ++ [.int .i64 V.t] by simp [cellsZ])
        have L5 := Lib.hid (show (ts ++ [V.t]).length = ts.length + 1 by simp)
        have zz := Lib.hid (show wr.heap.size ≤ w2.heap.size by have := Ext.size hy; simp at this; omega)
        clear hy eW TN g hz
        go_wp2_with (at_builtin; refine wpList_append_own _ rfl _ _ 38 rfl W0.heap.size 2 i0 (.int .i64 0) 1 8 Tryz.underlying38 hin hz0 hz1 hz2 rfl (by decide) _ ts.length _ rfl OA ⟨w2.heap.size + 1, 0, none⟩ 1 1 [.int .i64 V.t] rfl rfl CC.out P1.out P3.out P4.out zA.out ?_; intro v1 w5 hown hgrow hnil; have O5 := Lib.hid (show OwnZ w5 W0.heap.size v1 (ts ++ [V.t]) by unfold OwnZ; rw [L5.out, E5.out]; exact hown); have X5 := Lib.hid (row_grown (w0 := W0) OA hgrow (Nat.le_refl _) XA.out); have c9 : w5.cell? ⟨w2.heap.size, 0, none⟩ = some (.int .i64 V.t) := World.grownBy.cell hgrow (((Ext.refl _).alloc (.cells #[.int .i64 V.t] 2)).cellOf (boxed 0 rfl rfl)) (fun e => OwnZ.above HO.out zz.out e.symm); clear hown hgrow hnil OA)
        go_roundw
        case rel => exact ⟨j + 1, V.t, ts ++ [V.t], by go_num, rfl, by omega, by rw [L5.out, HT.out], by rw [HQ.out, TY.out]; simp, O5.out, X5.out⟩
        case measure => simp [intOf]; omega
      · have n0 : (C != 0) = true := by simp [g]
        have n1 : (C == 0) = false := beq_eq_false_iff_ne.2 g
        have HE := Lib.hid (show tmL fs ls 0 = ts by rw [HQ.out, TN.out g]; simp)
        have O5 := row_ext HO.out hz
        have X5 := HX.out.trans hz
        clear hz TY TN g
        go_wp2
        go_ret
        exact ⟨_, rfl, by rw [HE.out]; exact row_mono O5 (Ext.size HW.out), HW.out.trans X5⟩
    · obtain rfl : j = ls.length := by omega
      have HE := Lib.hid (show tmL fs ls 0 = ts by rw [HQ.out, tm_end]; simp)
      go_wp2
      go_ret
      exact ⟨_, rfl, by rw [HE.out]; exact row_mono HO.out (Ext.size HW.out), HW.out.trans HX.out⟩
end Go.Proofs.YtmlojndkpnhalaaGreat.Crs
namespace Go.Proofs.YtmlojndkpnhalaaGreat.Crs
open Go.ChangeShapes Go.WideShapes Go.ChangeAt Go.RowKit Go.PlainAid
open Go.Proofs.YtmlojndkpnhalaaGreat.Num Go.Proofs.YtmlojndkpnhalaaGreat.Kit Go.Proofs.YtmlojndkpnhalaaGreat.Pts Go.Proofs.YtmlojndkpnhalaaGreat.Seg Go.Proofs.YtmlojndkpnhalaaGreat.Div Go.Proofs.YtmlojndkpnhalaaGreat.Root Go.Proofs.YtmlojndkpnhalaaGreat.Rt Go.Proofs.YtmlojndkpnhalaaGreat.Gcd
open Go.Proofs.YtmlojndkpnhalaaGreat.Trk (F3 Fxs Tr trB CrV CL fcV fcC isC crL)
open Go.Proofs.YtmlojndkpnhalaaGreat.Rwk (fiV fiC fdB fi_yes fc_of first_impl l05First_spec vCr_yes put5_ok)
set_option linter.unusedVariables false
set_option linter.unusedSimpArgs false
theorem fd_fi {fs : List F3} {p : L4} {f : Int} (hv : trB fs = true) (hs : sgB p.a p.b p.c p.d = true) :
    fiV fs p.a p.b p.c p.d 1 f = fcV (crL fs p.a p.b p.c p.d (fs.length - 1)) 1 f ∧ fdB (crL fs p.a p.b p.c p.d (fs.length - 1)) 1 f = decide (fiC fs p.a p.b p.c p.d 1 f = 0) := by
  obtain ⟨h1, h2⟩ := fi_yes (f := f) (vCr_yes hv hs) (.inl rfl)
  refine ⟨h1, ?_⟩
  rw [h2, fc_of]
  cases fdB (crL fs p.a p.b p.c p.d (fs.length - 1)) 1 f <;> simp
def RelTS (w : World) (base : Nat) (fs : List F3) (ls : List L4) (o f i : Value) (wr : World) : Prop :=
  ∃ (j : Nat) (z : Int) (ts : List Int), i = .int .i64 j ∧ f = .int .i64 z ∧ j ≤ ls.length ∧ ts.length = j ∧ tmL fs ls 0 = ts ++ tmL fs (ls.drop j) z ∧ OwnZ wr base o ts ∧ Ext w wr
set_option maxRecDepth 100000 in
set_option maxHeartbeats 8000000 in
theorem l06Times_spec (l k : L4) (a : Option Addr) (cap : Nat) (ms : List M5) (at_ : Option Addr) (ct : Nat) (fs : List F3) (w : World) (hf : Mks w a ms) (ht : Fxs w at_ fs) (hq : crB l k ms = true) (hl : lsB l k ms = true) (hv : trB fs = true) :
    Calls Tryz.prog 63 #[CV l k (.slice a ms.length cap), Tr (.slice at_ fs.length ct)] w fun e w' => ∃ v, e = .returned v ∧ OwnZ w' w.heap.size v (tmL fs (stS l k ms) 0) ∧ Ext w w' := by
  have h8 := cr_eight hq
  have HS := Lib.hid (st_ok hq hl)
  have SL := Lib.hid (stS_len l k ms)
  have KL := Lib.hid (fun w hf => l06Lines_spec l k a cap ms w hf hq)
  have KF := Lib.hid (fun (p : L4) (f : Int) w' (h : Fxs w' at_ fs) (hs : sgB p.a p.b p.c p.d = true) => l05First_spec at_ ct fs p.a p.b p.c p.d 1 f w' h hv hs)
  have KD := Lib.hid (fun (p : L4) (f : Int) (hs : sgB p.a p.b p.c p.d = true) => fd_fi (f := f) hv hs)
  obtain ⟨W0, hW0⟩ : ∃ W0, W0 = (w.alloc (.cells (cellsC l k (.slice a ms.length cap)).toArray 30)).alloc (.cells #[.slice at_ fs.length ct] 33) := ⟨_, rfl⟩
  have HW := Lib.hid (show Ext w W0 from hW0 ▸ ((Ext.refl w).alloc _).alloc _)
  have BB := Lib.hid (show Box W0 w.heap.size (cellsC l k (.slice a ms.length cap)) from hW0 ▸ (Box.new rfl).alloc _)
  have ctt : W0.cell? ⟨w.heap.size + 1, 0, none⟩ = some (.slice at_ fs.length ct) := hW0 ▸ boxed 0 rfl (by simp)
  have CT := Lib.hid ctt
  have HF := Lib.hid (hf.ext HW.out)
  have HT := Lib.hid (ht.ext HW.out)
  clear hf ht ctt
  obtain ⟨i0, hin, hz0, hz1, hz2⟩ := info_parts int64Info
  go_enter Tryz.func63, Tryz.ntmps63
  go_wp2_with fail
  rw [← hW0]
  clear hW0
  refine (KL.out _ HF.out).mono ?_
  rintro e w1 ⟨v, rfl, hO, hx⟩
  have hO1 := hO hl
  obtain ⟨al, cl, rfl, hLx⟩ := OwnL.lxs hO1 (by rw [SL.out]; omega)
  have HL := Lib.hid hLx
  have X1 := Lib.hid hx
  have SN : (stS l k ms).length ≤ 1000 := by rw [SL.out]; omega
  clear hO hO1 hLx hx
  obtain ⟨ls, hls⟩ : ∃ ls, ls = stS l k ms := ⟨_, rfl⟩
  rw [← hls] at HS HL SN ⊢
  have HLS := Lib.hid hls
  clear hls SL
  have O0 := Lib.hid (show OwnZ (w1.alloc (.cells #[] 2)) w1.heap.size (.slice (some ⟨w1.heap.size, 0, none⟩) 0 0) [] from World.ownsRow_lit (base := w1.heap.size) (e := 2) (size := 1) w1 #[] 0 (Nat.le_refl _) (by unfold maxLen; omega) rfl)
  have E0 := Lib.hid ((Ext.refl w1).alloc (.cells #[] 2))
  go_wp2
  go_loopw [7, 8, 9] (fun o f i wr => RelTS w1 w1.heap.size fs ls o f i wr) (fun o f i _ => ls.length - (intOf i).toNat)
  case atStart => exact ⟨0, 0, [], rfl, rfl, Nat.zero_le _, rfl, rfl, O0.out, E0.out⟩
  case round =>
    obtain ⟨j, z, ts, rfl, rfl, hj, ht, hq2, hO, hx⟩ := hrel
    have HQ := Lib.hid hq2
    have HN := Lib.hid ht
    have HO := Lib.hid hO
    have HX := Lib.hid hx
    clear hq2 ht hO hx
    by_cases hj1 : j < ls.length
    · obtain ⟨b, off, rfl, hb⟩ := HL.out.row (by omega)
      obtain ⟨c0, c1, c2, c3⟩ := (hb j hj1).ext HX.out
      have ct0 := HX.out.cellOf (X1.out.cellOf CT.out)
      have j0 : (0 : Int) ≤ (j : Int) := by omega
      have j1 : (j : Int) < (ls.length : Int) := by omega
      have T7 : IntKind.i64.wrap ((j : Int) + 1) = (j : Int) + 1 := IntWalk.i64_in _ (by omega)
      have TY := Lib.hid (fun g => tm_yes (fs := fs) (ls := ls) (j := j) (f := z) hj1 g)
      have TN := Lib.hid (fun g => tm_no (fs := fs) (ls := ls) (j := j) (f := z) hj1 g)
      have hs := HS.out _ (List.mem_of_getElem? (ln_at hj1))
      obtain ⟨d1, d2⟩ := KD.out _ z hs
      have KJ := Lib.hid (fun w' h => KF.out _ z w' h hs)
      rw [← d1, d2] at KJ
      clear hb hs d1 d2
      obtain ⟨L, hL⟩ : ∃ L, L = ln ls j := ⟨_, rfl⟩
      rw [← hL] at c0 c1 c2 c3 TY TN KJ
      clear hL
      obtain ⟨V, hV⟩ : ∃ V, V = fiV fs L.a L.b L.c L.d 1 z := ⟨_, rfl⟩
      obtain ⟨C, hC⟩ : ∃ C, C = fiC fs L.a L.b L.c L.d 1 z := ⟨_, rfl⟩
      rw [← hV] at TY KJ
      rw [← hC] at TY TN KJ
      clear hV hC
      have e0 : ∀ w', Ext wr w' → w'.cell? ⟨b, off + j * 4, none⟩ = some (.int .i64 L.a) := fun w' h => h.cellOf c0
      have e1 : ∀ w', Ext wr w' → w'.cell? ⟨b, off + j * 4 + 1, none⟩ = some (.int .i64 L.b) := fun w' h => h.cellOf c1
      have e2 : ∀ w', Ext wr w' → w'.cell? ⟨b, off + j * 4 + 2, none⟩ = some (.int .i64 L.c) := fun w' h => h.cellOf c2
      have e3 : ∀ w', Ext wr w' → w'.cell? ⟨b, off + j * 4 + 3, none⟩ = some (.int .i64 L.d) := fun w' h => h.cellOf c3
      have e4 : ∀ w', Ext wr w' → w'.cell? ⟨w.heap.size + 1, 0, none⟩ = some (.slice at_ fs.length ct) := fun w' h => h.cellOf ct0
      go_upto_region 7 with fail
      go_cut [10, 11] (fun s t wx => (∃ B, s = .pointer (some ⟨B, 0, none⟩) ∧ wr.heap.size ≤ B ∧ Box wx B (CL V)) ∧ t = .bool (decide (C = 0)) ∧ Ext wr wx)
      case first =>
        clear c0 c1 c2 c3 ct0
        refine wp_region_held_drew (S := fun w' => Ext wr w') (by kernel_rfl) (by (try dsimp only); exact Ext.drew (Ext.refl wr)) (fun hHeld => ?_)
        have hE : Ext wr wr.drew := Ext.drew (Ext.refl wr)
        obtain ⟨V0, hV0⟩ : ∃ V0, V0 = wr.drew := ⟨_, rfl⟩
        rw [← hV0] at hE hHeld ⊢
        clear hV0
        refine Ord.K 0 25 ?_; refine Ord.K 1 26 ?_; refine Ord.K 2 27 ?_; refine Ord.K 5 30 ?_; refine Ord.K 3 28 ?_; refine Ord.K 4 29 ?_
        refine wpAnyH_ready (rs := [6, 10]) (by kernel_rfl) (by simp) ?_
        refine (AllReadyH.cons rfl (fun K hK => ?_) (AllReadyH.cons rfl (fun K hK => ?_) AllReadyH.nil))
        · go_simp
          go_at_call 116
          refine (KJ.out _ ((HT.out.ext (X1.out.trans HX.out)).ext hE)).mono ?_
          rintro e V1 ⟨rfl, hy⟩
          go_wp2_with fail
          have zy := Ext.size hy
          have hE' := hE.trans hy
          refine hK.out _ _ hE' (fun hHeld => ?_)
          clear hK K
          (try simp only [Act.put, Ord.a, Ord.b, Ord.c])
          replace hE := hE'
          clear hE' hy
          refine Ord.K 7 24 ?_; refine Ord.K 8 32 ?_; refine Ord.K 9 33 ?_
          refine wpAnyH_ready (rs := [10]) (by kernel_rfl) (by simp) ?_
          refine (AllReadyH.cons rfl (fun K hK => ?_) AllReadyH.nil)
          go_simp
          have hy : Ext V1 (V1.alloc (.cells #[.int .i64 0, .int .i64 0, .int .i64 0, .int .i64 0, .int .i64 0] 188)) := (Ext.refl V1).alloc _
          have hE' := hE.trans hy
          refine hK.out _ _ hE' (fun hHeld => ?_)
          clear hK K
          (try simp only [Act.put, Ord.a, Ord.b, Ord.c])
          have P10 : Box (V1.alloc (.cells #[.int .i64 0, .int .i64 0, .int .i64 0, .int .i64 0, .int .i64 0] 188)) V1.heap.size [.int .i64 0, .int .i64 0, .int .i64 0, .int .i64 0, .int .i64 0] := Box.new (vs := [.int .i64 0, .int .i64 0, .int .i64 0, .int .i64 0, .int .i64 0]) rfl
          have z10 := Ext.size hE
          have y10 : V1.heap.size < (V1.alloc (.cells #[.int .i64 0, .int .i64 0, .int .i64 0, .int .i64 0, .int .i64 0] 188)).heap.size := by simp
          replace hE := hE'
          clear hE' hy
          generalize V1.alloc (.cells #[.int .i64 0, .int .i64 0, .int .i64 0, .int .i64 0, .int .i64 0] 188) = V2 at *
          refine wpAnyH_ready (rs := [11]) (by kernel_rfl) (by simp) ?_
          refine (AllReadyH.cons rfl (fun K hK => ?_) AllReadyH.nil)
          obtain ⟨⟨r0, r1, r2, r3, r4⟩, s0, s1, s2, s3, s4⟩ := P10.five
          go_simp
          have hE' : Ext wr (((((V2.setCell ⟨V1.heap.size, 0, none⟩ (.int .i64 V.t)).setCell ⟨V1.heap.size, 1, none⟩ (.int .i64 V.l)).setCell ⟨V1.heap.size, 2, none⟩ (.int .i64 V.g)).setCell ⟨V1.heap.size, 3, none⟩ (.int .i64 V.x)).setCell ⟨V1.heap.size, 4, none⟩ (.int .i64 V.y)) := (((((hE.setNew (by first | omega | (simp; omega) | simp) _).setNew (by first | omega | (simp; omega) | simp) _).setNew (by first | omega | (simp; omega) | simp) _).setNew (by first | omega | (simp; omega) | simp) _).setNew (by first | omega | (simp; omega) | simp) _)
          refine hK.out _ _ hE' (fun hHeld => ?_)
          clear hK K r0 r1 r2 r3 r4 s0 s1 s2 s3 s4
          (try simp only [Act.put, Ord.a, Ord.b, Ord.c])
          replace P10 := P10.set5 (a := .int .i64 V.t) (b := .int .i64 V.l) (c := .int .i64 V.g) (d := .int .i64 V.x) (e := .int .i64 V.y)
          replace hE := hE'
          clear hE'
          generalize (((((V2.setCell ⟨V1.heap.size, 0, none⟩ (.int .i64 V.t)).setCell ⟨V1.heap.size, 1, none⟩ (.int .i64 V.l)).setCell ⟨V1.heap.size, 2, none⟩ (.int .i64 V.g)).setCell ⟨V1.heap.size, 3, none⟩ (.int .i64 V.x)).setCell ⟨V1.heap.size, 4, none⟩ (.int .i64 V.y)) = V3 at *
          refine Ord.K 12 11 ?_
          refine wpAnyH_done (by kernel_rfl) ?_ _
          go_wp2_with fail; go_meet; exact ⟨⟨_, rfl, by omega, P10⟩, rfl, hE⟩
        · go_simp
          have hy : Ext V0 (V0.alloc (.cells #[.int .i64 0, .int .i64 0, .int .i64 0, .int .i64 0, .int .i64 0] 188)) := (Ext.refl V0).alloc _
          have hE' := hE.trans hy
          refine hK.out _ _ hE' (fun hHeld => ?_)
          clear hK K
          (try simp only [Act.put, Ord.a, Ord.b, Ord.c])
          have P10 : Box (V0.alloc (.cells #[.int .i64 0, .int .i64 0, .int .i64 0, .int .i64 0, .int .i64 0] 188)) V0.heap.size [.int .i64 0, .int .i64 0, .int .i64 0, .int .i64 0, .int .i64 0] := Box.new (vs := [.int .i64 0, .int .i64 0, .int .i64 0, .int .i64 0, .int .i64 0]) rfl
          have z10 := Ext.size hE
          have y10 : V0.heap.size < (V0.alloc (.cells #[.int .i64 0, .int .i64 0, .int .i64 0, .int .i64 0, .int .i64 0] 188)).heap.size := by simp
          replace hE := hE'
          clear hE' hy
          generalize V0.alloc (.cells #[.int .i64 0, .int .i64 0, .int .i64 0, .int .i64 0, .int .i64 0] 188) = V1 at *
          refine wpAnyH_ready (rs := [6]) (by kernel_rfl) (by simp) ?_
          refine (AllReadyH.cons rfl (fun K hK => ?_) AllReadyH.nil)
          go_simp
          go_at_call 116
          refine (KJ.out _ ((HT.out.ext (X1.out.trans HX.out)).ext hE)).mono ?_
          rintro e V2 ⟨rfl, hy⟩
          go_wp2_with fail
          have zy := Ext.size hy
          have hE' := hE.trans hy
          refine hK.out _ _ hE' (fun hHeld => ?_)
          clear hK K
          (try simp only [Act.put, Ord.a, Ord.b, Ord.c])
          replace P10 := P10.ext hy
          replace hE := hE'
          clear hE' hy
          refine Ord.K 7 24 ?_; refine Ord.K 8 32 ?_; refine Ord.K 9 33 ?_
          refine wpAnyH_ready (rs := [11]) (by kernel_rfl) (by simp) ?_
          refine (AllReadyH.cons rfl (fun K hK => ?_) AllReadyH.nil)
          obtain ⟨⟨r0, r1, r2, r3, r4⟩, s0, s1, s2, s3, s4⟩ := P10.five
          go_simp
          have hE' : Ext wr (((((V2.setCell ⟨V0.heap.size, 0, none⟩ (.int .i64 V.t)).setCell ⟨V0.heap.size, 1, none⟩ (.int .i64 V.l)).setCell ⟨V0.heap.size, 2, none⟩ (.int .i64 V.g)).setCell ⟨V0.heap.size, 3, none⟩ (.int .i64 V.x)).setCell ⟨V0.heap.size, 4, none⟩ (.int .i64 V.y)) := (((((hE.setNew (by first | omega | (simp; omega) | simp) _).setNew (by first | omega | (simp; omega) | simp) _).setNew (by first | omega | (simp; omega) | simp) _).setNew (by first | omega | (simp; omega) | simp) _).setNew (by first | omega | (simp; omega) | simp) _)
          refine hK.out _ _ hE' (fun hHeld => ?_)
          clear hK K r0 r1 r2 r3 r4 s0 s1 s2 s3 s4
          (try simp only [Act.put, Ord.a, Ord.b, Ord.c])
          replace P10 := P10.set5 (a := .int .i64 V.t) (b := .int .i64 V.l) (c := .int .i64 V.g) (d := .int .i64 V.x) (e := .int .i64 V.y)
          replace hE := hE'
          clear hE'
          generalize (((((V2.setCell ⟨V0.heap.size, 0, none⟩ (.int .i64 V.t)).setCell ⟨V0.heap.size, 1, none⟩ (.int .i64 V.l)).setCell ⟨V0.heap.size, 2, none⟩ (.int .i64 V.g)).setCell ⟨V0.heap.size, 3, none⟩ (.int .i64 V.x)).setCell ⟨V0.heap.size, 4, none⟩ (.int .i64 V.y)) = V3 at *
          refine Ord.K 12 11 ?_
          refine wpAnyH_done (by kernel_rfl) ?_ _
          go_wp2_with fail; go_meet; exact ⟨⟨_, rfl, by omega, P10⟩, rfl, hE⟩
      case rest =>
        obtain ⟨⟨B, rfl, hB, PB⟩, rfl, hz⟩ := hcut
        have q0 := (PB 0 _ rfl).1
        clear e0 e1 e2 e3 e4 c0 c1 c2 c3 ct0 PB
        by_cases g : C = 0
        · rw [decide_eq_true g]
          replace TY := Lib.hid (TY.out g)
          have OA := row_ext (row_ext HO.out hz) ((Ext.refl _).alloc (.cells #[.int .i64 V.t] 2))
          have XA := Lib.hid ((HX.out.trans hz).alloc (.cells #[.int .i64 V.t] 2))
          have CC := Lib.hid (lit_cells (w := wc) (n := wc.heap.size) (u := .int .i64 V.t) (t := 2) rfl)
          have P1 := Lib.hid (one_int V.t)
          have P3 := Lib.hid (show ts.length + 1 ≤ maxLen by unfold maxLen; have := HN.out; omega)
          have P4 := Lib.hid (show (ts.length + 1) * 8 ≤ 140737488355328 by have := HN.out; omega)
          have zA := Lib.hid (Ext.size XA.out)
          have E5 := Lib.hid (show cellsZ (ts ++ [V.t]) = cellsZ ts ++ [.int .i64 V.t] by simp [cellsZ])
          have L5 := Lib.hid (show (ts ++ [V.t]).length = ts.length + 1 by simp)
          have q1 := Lib.hid (((Ext.refl wc).alloc (.cells #[.int .i64 V.t] 2)).cellOf q0)
          clear TN g
          go_wp2_with (at_builtin; refine wpList_append_own _ rfl _ _ 38 rfl w1.heap.size 2 i0 (.int .i64 0) 1 8 Tryz.underlying38 hin hz0 hz1 hz2 rfl (by decide) _ ts.length _ rfl OA ⟨wc.heap.size, 0, none⟩ 1 1 [.int .i64 V.t] rfl rfl CC.out P1.out P3.out P4.out zA.out ?_; intro v1 w5 hown hgrow hnil; have O5 := Lib.hid (show OwnZ w5 w1.heap.size v1 (ts ++ [V.t]) by unfold OwnZ; rw [L5.out, E5.out]; exact hown); have X5 := Lib.hid (row_grown (w0 := w1) OA hgrow (Nat.le_refl _) XA.out); have c9 : w5.cell? ⟨B, 0, none⟩ = some (.int .i64 V.t) := World.grownBy.cell hgrow q1.out (fun e => OwnZ.above HO.out hB e.symm); clear hown hgrow hnil OA)
          go_roundw
          case rel => exact ⟨j + 1, V.t, ts ++ [V.t], by go_num, rfl, by omega, by rw [L5.out, HN.out], by rw [HQ.out, TY.out]; simp, O5.out, X5.out⟩
          case measure => simp [intOf]; omega
        · rw [decide_eq_false g]
          have HE := Lib.hid (show tmL fs ls 0 = ts by rw [HQ.out, TN.out g]; simp)
          have O5 := row_ext HO.out hz
          have X5 := HX.out.trans hz
          clear hz TY TN g
          go_wp2
          go_ret
          exact ⟨_, rfl, by rw [← HLS.out, HE.out]; exact row_mono O5 (Ext.size (HW.out.trans X1.out)), HW.out.trans (X1.out.trans X5)⟩
    · obtain rfl : j = ls.length := by omega
      have HE := Lib.hid (show tmL fs ls 0 = ts by rw [HQ.out, tm_end]; simp)
      go_wp2
      go_ret
      exact ⟨_, rfl, by rw [← HLS.out, HE.out]; exact row_mono HO.out (Ext.size (HW.out.trans X1.out)), HW.out.trans (X1.out.trans HX.out)⟩
end Go.Proofs.YtmlojndkpnhalaaGreat.Crs
namespace Go.Proofs.YtmlojndkpnhalaaGreat.Crs
open Go.ChangeShapes Go.WideShapes Go.ChangeAt Go.RowKit Go.PlainAid
open Go.Proofs.YtmlojndkpnhalaaGreat.Num Go.Proofs.YtmlojndkpnhalaaGreat.Kit Go.Proofs.YtmlojndkpnhalaaGreat.Pts Go.Proofs.YtmlojndkpnhalaaGreat.Seg Go.Proofs.YtmlojndkpnhalaaGreat.Div Go.Proofs.YtmlojndkpnhalaaGreat.Root Go.Proofs.YtmlojndkpnhalaaGreat.Rt Go.Proofs.YtmlojndkpnhalaaGreat.Gcd
open Go.Proofs.YtmlojndkpnhalaaGreat.Trk (F3 Fxs Tr trB CrV CL fcV fcC fcO isC crL lwI legC crL_same crL_more lx_bd leg_bounds durI upI fx trB_yes fxB_yes okB_fx tmB mwI mrI)
open Go.Proofs.YtmlojndkpnhalaaGreat.Rwk (fiV fiC fdB fi_yes fc_of vCr_yes)
set_option linter.unusedVariables false
set_option linter.unusedSimpArgs false
theorem crL_mem6 (fs : List F3) (a b c d : Int) : ∀ n x, x ∈ crL fs a b c d n → ∃ j, j < n ∧ lwI fs a b c d j ≠ 0 ∧ x = legC fs a b c d j
  | 0, x, h => by simp [crL] at h
  | n + 1, x, h => by
    by_cases e : lwI fs a b c d n = 0
    · rw [crL_same e] at h
      obtain ⟨j, hj, r⟩ := crL_mem6 fs a b c d n x h
      exact ⟨j, by omega, r⟩
    · rw [crL_more e, List.mem_append] at h
      rcases h with h | h
      · obtain ⟨j, hj, r⟩ := crL_mem6 fs a b c d n x h
        exact ⟨j, by omega, r⟩
      · simp at h; exact ⟨n, by omega, e, h⟩
theorem up_le6 {dur x y : Int} (h0 : 0 ≤ dur) (k1 : 0 ≤ x) (k2 : x ≤ y) (d1 : 1 ≤ y) (t : Int) : t ≤ upI (t + dur * x / y) (dur * x % y) ∧ upI (t + dur * x / y) (dur * x % y) ≤ t + dur := by
  have e := Int.emod_add_mul_ediv (dur * x) y
  have r0 := Int.emod_nonneg (dur * x) (show y ≠ 0 by omega)
  have q0 : 0 ≤ dur * x / y := Int.ediv_nonneg (Int.mul_nonneg h0 k1) (by omega)
  have m := Int.mul_le_mul_of_nonneg_left k2 h0
  have q1 : dur * x / y ≤ dur := by
    have := Int.ediv_le_ediv (show 0 < y by omega) m
    rw [Int.mul_ediv_cancel _ (by omega)] at this; exact this
  unfold upI
  by_cases hr : 0 < dur * x % y
  · rw [if_pos hr]
    have : dur * x / y ≠ dur := fun h => by
      rw [h, Int.mul_comm y dur] at e
      omega
    omega
  · rw [if_neg hr]; omega
theorem fx_time {fs : List F3} (h : trB fs = true) {i : Nat} (hi : i < fs.length) : 0 ≤ (fx fs i).t ∧ (fx fs i).t ≤ 1000000000 := by
  exact (fxB_yes (okB_fx ((trB_yes h).2 i hi))).1
theorem crT_bd {fs : List F3} {a b c d : Int} (hv : trB fs = true) (hs : sgB a b c d = true) : ∀ x ∈ crL fs a b c d (fs.length - 1), 0 ≤ x.t ∧ x.t ≤ 1000000000 := by
  intro x hx
  obtain ⟨j, hj, hl, rfl⟩ := crL_mem6 fs a b c d _ x hx
  have hj1 : j + 1 < fs.length := by omega
  obtain ⟨_, u0, u1⟩ := leg_bounds hv hj1
  obtain ⟨_, b1, b2, b3, b4⟩ := lx_bd hv hj1 hs hl
  obtain ⟨hU1, hU2⟩ := up_le6 (dur := durI fs j) (by omega) b1 b2 b3 (fx fs j).t
  have hd : (fx fs (j + 1)).t = (fx fs j).t + durI fs j := by unfold durI; omega
  obtain ⟨f1, f2⟩ := fx_time hv (show j < fs.length by omega)
  obtain ⟨g1, g2⟩ := fx_time hv hj1
  constructor
  · exact Int.le_trans f1 hU1
  · exact Int.le_trans hU2 (by omega)
theorem fi_bd {fs : List F3} {p : L4} {f : Int} (hv : trB fs = true) (hs : sgB p.a p.b p.c p.d = true) (h : fiC fs p.a p.b p.c p.d 1 f = 0) :
    f ≤ (fiV fs p.a p.b p.c p.d 1 f).t ∧ 0 ≤ (fiV fs p.a p.b p.c p.d 1 f).t ∧ (fiV fs p.a p.b p.c p.d 1 f).t ≤ 1000000000 := by
  obtain ⟨h1, h2⟩ := fi_yes (f := f) (vCr_yes hv hs) (.inl rfl)
  rw [h2] at h
  rw [h1]
  unfold fcC at h
  unfold fcV
  cases e : fcO (crL fs p.a p.b p.c p.d (fs.length - 1)) 1 f with
  | none => rw [e] at h; simp at h
  | some c =>
    unfold fcO at e
    have hm := List.mem_of_find?_eq_some e
    have hc := List.find?_some e
    unfold isC at hc
    simp only [Bool.and_eq_true, decide_eq_true_eq] at hc
    exact ⟨hc.2, crT_bd hv hs c hm⟩
theorem tm_bd {fs : List F3} (hv : trB fs = true) : ∀ (ls : List L4) (f : Int), (∀ p ∈ ls, sgB p.a p.b p.c p.d = true) → (∀ t ∈ tmL fs ls f, f ≤ t ∧ 0 ≤ t ∧ t ≤ 1000000000) ∧ (tmL fs ls f).Pairwise (· ≤ ·)
  | [], f, h => ⟨fun t ht => by simp [tmL] at ht, List.Pairwise.nil⟩
  | p :: ps, f, h => by
    unfold tmL
    by_cases g : fiC fs p.a p.b p.c p.d 1 f = 0
    · rw [if_pos g]
      obtain ⟨b0, b1, b2⟩ := fi_bd hv (h p (List.mem_cons_self ..)) g
      obtain ⟨i1, i2⟩ := tm_bd hv ps (fiV fs p.a p.b p.c p.d 1 f).t (fun q hq => h q (List.mem_cons_of_mem _ hq))
      refine ⟨fun t ht => ?_, List.Pairwise.cons (fun t ht => (i1 t ht).1) i2⟩
      rcases List.mem_cons.1 ht with rfl | ht
      · exact ⟨b0, b1, b2⟩
      · have := i1 t ht; omega
    · rw [if_neg g]
      exact ⟨fun t ht => by simp at ht, List.Pairwise.nil⟩
end Go.Proofs.YtmlojndkpnhalaaGreat.Crs
namespace Go.Proofs.YtmlojndkpnhalaaGreat.Crs
open Go.ChangeShapes Go.WideShapes Go.ChangeAt Go.RowKit Go.PlainAid
open Go.Proofs.YtmlojndkpnhalaaGreat.Num Go.Proofs.YtmlojndkpnhalaaGreat.Kit Go.Proofs.YtmlojndkpnhalaaGreat.Pts Go.Proofs.YtmlojndkpnhalaaGreat.Seg Go.Proofs.YtmlojndkpnhalaaGreat.Div Go.Proofs.YtmlojndkpnhalaaGreat.Root Go.Proofs.YtmlojndkpnhalaaGreat.Rt Go.Proofs.YtmlojndkpnhalaaGreat.Gcd
open Go.Proofs.YtmlojndkpnhalaaGreat.Trk (F3 Fxs Tr trB)
set_option linter.unusedVariables false
set_option linter.unusedSimpArgs false
theorem OwnZ.cell {w : World} {base g cap n : Nat} {zs : List Int} (h : OwnZ w base (.slice (some ⟨g, 0, none⟩) n cap) zs) (hn : n = zs.length) (i : Nat) (hi : i < zs.length) : w.cell? ⟨g, i, none⟩ = some (.int .i64 (nz zs i)) := by
  subst hn
  rw [World.ownsRow.cellAt h i (by omega)]
  unfold cellsZ
  rw [List.getElem?_map, nz_at hi]; rfl
def rcN (zs : List Int) (t : Int) : Nat := zs.countP fun z => decide (z ≤ t)
theorem rc_le (zs : List Int) (t : Int) : rcN zs t ≤ zs.length := List.countP_le_length
theorem rc_take {zs : List Int} {t : Int} {j : Nat} (h : j < zs.length) : rcN (zs.take (j + 1)) t = if nz zs j ≤ t then rcN (zs.take j) t + 1 else rcN (zs.take j) t := by
  have e : zs.take (j + 1) = zs.take j ++ [nz zs j] := by
    rw [List.take_add_one, nz_at h]; rfl
  unfold rcN
  rw [e, List.countP_append]
  by_cases g : nz zs j ≤ t
  · rw [if_pos g]; simp [g]
  · rw [if_neg g]; simp [g]
theorem rc_at {zs : List Int} {t : Int} {h : Nat} (hh : h ≤ zs.length) (h1 : ∀ i, i < h → nz zs i ≤ t) (h2 : ∀ i, h ≤ i → i < zs.length → t < nz zs i) : rcN zs t = h := by
  have key : ∀ j, j ≤ zs.length → rcN (zs.take j) t = min j h := by
    intro j
    induction j with
    | zero => intro _; simp [rcN]
    | succ j ih =>
      intro hj
      rw [rc_take (by omega), ih (by omega)]
      by_cases g : j < h
      · rw [if_pos (h1 j g)]; omega
      · rw [if_neg (by have := h2 j (by omega) (by omega); omega)]; omega
  have := key zs.length (Nat.le_refl _)
  rw [List.take_length] at this
  omega
def RelRc (w : World) (zs : List Int) (t : Int) (n i : Value) (wr : World) : Prop := ∃ j : Nat, i = .int .i64 j ∧ n = .int .i64 ((rcN (zs.take j) t : Nat) : Int) ∧ j ≤ zs.length ∧ w = wr
theorem l06Reached_spec (a : Option Addr) (cap : Nat) (zs : List Int) (t : Int) (w : World) (hz : Zxs w a zs) (hl : zs.length ≤ 1000) :
    Calls Tryz.prog 62 #[.slice a zs.length cap, .int .i64 t] w fun e w' => e = .returned (.int .i64 (rcN zs t)) ∧ Ext w w' := by
  have HZ := Lib.hid hz
  clear hz
  go_enter Tryz.func62, Tryz.ntmps62
  go_wp2
  go_loopw [5, 6] (fun n i wr => RelRc w zs t n i wr) (fun n i _ => zs.length - (intOf i).toNat)
  case atStart => exact ⟨0, rfl, rfl, Nat.zero_le _, rfl⟩
  case round =>
    obtain ⟨j, rfl, rfl, hj, rfl⟩ := hrel
    by_cases hj1 : j < zs.length
    · obtain ⟨b, off, rfl, hb⟩ := HZ.out.row (by omega)
      have c0 := hb j hj1
      have j0 : (0 : Int) ≤ (j : Int) := by omega
      have j1 : (j : Int) < (zs.length : Int) := by omega
      have T7 : IntKind.i64.wrap ((j : Int) + 1) = (j : Int) + 1 := IntWalk.i64_in _ (by omega)
      have b1 := rc_le (zs.take j) t
      have b2 : (zs.take j).length ≤ 1000 := by simp; omega
      have RT := Lib.hid (rc_take (zs := zs) (t := t) hj1)
      obtain ⟨R, hR⟩ : ∃ R, R = rcN (zs.take j) t := ⟨_, rfl⟩
      rw [← hR] at RT b1 ⊢
      have T8 : IntKind.i64.wrap ((R : Int) + 1) = (R : Int) + 1 := IntWalk.i64_in _ (by omega)
      clear hR hb b1 b2
      by_cases g : nz zs j ≤ t
      · rw [if_pos g] at RT
        have d : decide (nz zs j ≤ t) = true := decide_eq_true g
        go_wp2
        go_roundw
        case rel => exact ⟨j + 1, by go_num, by rw [RT.out]; go_num, by omega, rfl⟩
        case measure => simp [intOf]; omega
      · rw [if_neg g] at RT
        have d : decide (nz zs j ≤ t) = false := decide_eq_false g
        go_wp2
        go_roundw
        case rel => exact ⟨j + 1, by go_num, by rw [RT.out], by omega, rfl⟩
        case measure => simp [intOf]; omega
    · obtain rfl : j = zs.length := by omega
      rw [List.take_length]
      go_wp2
      go_ret
      exact ⟨rfl, Ext.refl _⟩
end Go.Proofs.YtmlojndkpnhalaaGreat.Crs
namespace Go.Proofs.YtmlojndkpnhalaaGreat.Crs
open Go.ChangeShapes Go.WideShapes Go.ChangeAt Go.RowKit Go.PlainAid
open Go.Proofs.YtmlojndkpnhalaaGreat.Num Go.Proofs.YtmlojndkpnhalaaGreat.Kit Go.Proofs.YtmlojndkpnhalaaGreat.Pts Go.Proofs.YtmlojndkpnhalaaGreat.Seg Go.Proofs.YtmlojndkpnhalaaGreat.Div Go.Proofs.YtmlojndkpnhalaaGreat.Root Go.Proofs.YtmlojndkpnhalaaGreat.Rt Go.Proofs.YtmlojndkpnhalaaGreat.Gcd
open Go.Proofs.YtmlojndkpnhalaaGreat.Trk (F3 Fxs Tr trB RelS below_no)
set_option linter.unusedVariables false
set_option linter.unusedSimpArgs false
theorem keySelf_any (t : Int) (w : World) : Calls Tryz.prog 115 #[.int .i64 t] w fun e w' => e = .returned (.int .i64 t) ∧ Ext w w' := by
  go_enter Tryz.func115, Tryz.ntmps115
  go_wp2
  go_ret
  exact ⟨rfl, Ext.refl _⟩
theorem above6_any (b off cap n i k l m : Nat) (z : Int) (t : Int) (w : World) (hi : i < n) (hc : w.cell? ⟨b, off + i, none⟩ = some (.int .i64 z))
    (hk : w.cell? ⟨k, 0, none⟩ = some (.func (.func 115) #[] #[])) (hl : w.cell? ⟨l, 0, none⟩ = some (.slice (some ⟨b, off, none⟩) n cap)) (hm : w.cell? ⟨m, 0, none⟩ = some (.int .i64 t)) :
    Calls Tryz.prog 187 #[.int .i64 i, Ptr k, Ptr l, Ptr m] w fun e w' => e = .returned (.bool (decide (t < z))) ∧ Ext w w' := by
  have i0 : (0 : Int) ≤ (i : Int) := by omega
  have i1 : (i : Int) < (n : Int) := by omega
  have e0 : ∀ w', Ext w w' → w'.cell? ⟨b, off + i, none⟩ = some (.int .i64 z) := fun w' h => h.cellOf hc
  have e3 : ∀ w', Ext w w' → w'.cell? ⟨k, 0, none⟩ = some (.func (.func 115) #[] #[]) := fun w' h => h.cellOf hk
  have e4 : ∀ w', Ext w w' → w'.cell? ⟨l, 0, none⟩ = some (.slice (some ⟨b, off, none⟩) n cap) := fun w' h => h.cellOf hl
  have e5 : ∀ w', Ext w w' → w'.cell? ⟨m, 0, none⟩ = some (.int .i64 t) := fun w' h => h.cellOf hm
  clear hc hk hl hm
  go_enter Tryz.func187, Tryz.ntmps187
  go_wp2_with fail
  refine wp_region_held_drew (S := (fun w' => Ext w w')) (by kernel_rfl) (by (try dsimp only); first | go_keep | exact (Ext.refl _).drew | exact Res.new2.drew | exact Res.new4.drew | exact ResB.drew (by assumption) | exact ResC.drew (by assumption) | assumption | exact Ext.drew (by assumption) | exact Res.drew (by assumption)) (fun hHeld => ?_)
  refine Ord.K 0 6 ?_
  refine Ord.K 1 7 ?_
  refine Ord.K 2 8 ?_
  refine Ord.K 3 9 ?_
  refine Ord.K 4 10 ?_
  refine Ord.K 6 12 ?_
  (refine wpAnyH_ready (rs := [5]) (by kernel_rfl) (by simp) ?_; refine AllReadyH.cons rfl (fun K hK => ?_) AllReadyH.nil; go_simp; (go_at_call 115; refine (keySelf_any _ _).mono ?_; rintro e w1 ⟨rfl, hy⟩); go_wp2_with fail; (refine hK.out _ _ (by first | assumption | exact Ext.trans (by assumption) hy | exact Res.ext (by assumption) hy | exact ResB.ext (by assumption) hy | exact ResC.ext (by assumption) hy | (go_split_ands; (repeat' apply And.intro) <;> exact Ext.cellOf hy (by assumption))) (fun hHeld => ?_)); clear hK K; (try simp only [Act.put, Ord.a, Ord.b, Ord.c]))
  refine Ord.K 7 13 ?_
  refine Ord.K 8 5 ?_
  refine wpAnyH_done (by kernel_rfl) ?_ _
  go_wp2
  go_ret
  exact ⟨rfl, by assumption⟩
set_option maxHeartbeats 1000000 in
theorem search6_any (n : Nat) (p : Nat → Bool) (k l m : Nat) (w : World) (hn : n ≤ 1000000)
    (hf : ∀ w', Ext w w' → ∀ i, i < n → Calls Tryz.prog 187 #[.int .i64 i, Ptr k, Ptr l, Ptr m] w' fun e w'' => e = .returned (.bool (p i)) ∧ Ext w' w'')
    (hmono : ∀ a b, a ≤ b → b < n → p a = true → p b = true) :
    Calls Tryz.prog 186 #[.int .i64 n, .func (.func 187) #[] #[Ptr k, Ptr l, Ptr m]] w fun e w' =>
      ∃ h : Nat, e = .returned (.int .i64 h) ∧ h ≤ n ∧ (∀ i, i < h → p i = false) ∧ (∀ i, h ≤ i → i < n → p i = true) ∧ Ext w w' := by
  have HF := Lib.hid hf
  have HM := Lib.hid hmono
  clear hf hmono
  go_enter Tryz.func186, Tryz.ntmps186
  go_wp2
  go_loopw [5, 6] (fun i j wr => RelS w n p i j wr) (fun i j _ => (intOf j).toNat - (intOf i).toNat)
  case atStart => exact ⟨0, n, rfl, rfl, Nat.zero_le _, Nat.le_refl _, fun x hx => absurd hx (by omega), fun x h1 h2 => absurd h1 (by omega), Ext.refl _⟩
  case round =>
    obtain ⟨lo, hi, rfl, rfl, hlh, hin, hA, hB, hx⟩ := hrel
    have HA := Lib.hid hA
    have HB := Lib.hid hB
    have HX := Lib.hid hx
    clear hA hB hx
    by_cases hlt : lo < hi
    · have hc := HF.out _ HX.out ((lo + hi) / 2) (by omega)
      rw [show (((lo + hi) / 2 : Nat) : Int) = ((lo : Int) + (hi : Int)) / 2 by omega] at hc
      cases hp : p ((lo + hi) / 2) <;> rw [hp] at hc
      · have HP := Lib.hid hp
        clear hp
        go_wp2_with (go_at_call 187; refine hc.mono ?_; rintro e w1 ⟨rfl, hy⟩)
        have HY := Lib.hid (HX.out.trans hy)
        clear hy
        go_roundw
        case rel =>
          exact ⟨(lo + hi) / 2 + 1, hi, by rw [show ((lo : Int) + (hi : Int)) / 2 + 1 = (((lo + hi) / 2 + 1 : Nat) : Int) by omega], rfl, by omega, hin, below_no HM.out (by omega) HP.out, HB.out, HY.out⟩
        case measure => simp [intOf]; omega
      · have HP := Lib.hid hp
        clear hp
        go_wp2_with (go_at_call 187; refine hc.mono ?_; rintro e w1 ⟨rfl, hy⟩)
        have HY := Lib.hid (HX.out.trans hy)
        clear hy
        go_roundw
        case rel =>
          exact ⟨lo, (lo + hi) / 2, rfl, by rw [show ((lo : Int) + (hi : Int)) / 2 = (((lo + hi) / 2 : Nat) : Int) by omega], by omega, by omega, HA.out, fun x hx hxn => HM.out ((lo + hi) / 2) x hx hxn HP.out, HY.out⟩
        case measure => simp [intOf]; omega
    · obtain rfl : hi = lo := by omega
      go_wp2
      go_ret
      exact ⟨hi, rfl, hin, HA.out, HB.out, HX.out⟩
theorem nz_sorted {zs : List Int} (h : zs.Pairwise (· ≤ ·)) {i j : Nat} (hij : i ≤ j) (hj : j < zs.length) : nz zs i ≤ nz zs j := by
  by_cases e : i = j
  · subst e; exact Int.le_refl _
  · have := List.pairwise_iff_getElem.1 h i j (by omega) hj (by omega)
    unfold nz
    rw [List.getD_eq_getElem?_getD, List.getD_eq_getElem?_getD]
    simp [hj, show i < zs.length by omega]
    exact this
theorem lastAtMost6_any (a : Option Addr) (cap : Nat) (zs : List Int) (t : Int) (w : World) (hz : Zxs w a zs) (hl : zs.length ≤ 1000) (hs : zs.Pairwise (· ≤ ·)) :
    Calls Tryz.prog 114 #[.slice a zs.length cap, .int .i64 t, .func (.func 115) #[] #[]] w fun e w' =>
      e = .returned (.int .i64 ((rcN zs t : Int) - 1)) ∧ Ext w w' := by
  have HZ := Lib.hid hz
  have HM := Lib.hid (fun i j hij hj => nz_sorted hs (i := i) (j := j) hij hj)
  have HR := Lib.hid (fun h hh h1 h2 => rc_at (zs := zs) (t := t) (h := h) hh h1 h2)
  clear hz hs
  go_enter Tryz.func114, Tryz.ntmps114
  go_wp2_with fail
  refine (search6_any zs.length (fun i => decide (t < nz zs i)) _ _ _ _ (by omega) (fun w' hx i hi => ?_) ?_).mono ?_
  · obtain ⟨b, off, rfl, hb⟩ := HZ.out.row (by omega)
    refine above6_any b off cap zs.length i _ _ _ (nz zs i) t w' hi (hx.cellOf (((((Ext.refl _).alloc _).alloc _).alloc _).cellOf (hb i hi))) ?_ ?_ ?_
    · exact hx.cellOf (boxed 0 rfl (by simp))
    · exact hx.cellOf ((((Ext.refl _).alloc _).alloc _).cellOf (boxed 0 rfl rfl))
    · exact hx.cellOf (((Ext.refl _).alloc _).cellOf (boxed 0 rfl (by simp)))
  · intro i j hij hj h
    simp at h ⊢
    have := HM.out i j hij hj
    omega
  rintro e w1 ⟨h, rfl, hh, ha, hb, hx⟩
  have HX := Lib.hid hx
  have HE := Lib.hid (HR.out h hh (fun i hi => by have := ha i hi; simp at this; exact this) (fun i h1 h2 => by have := hb i h1 h2; simp at this; exact this))
  clear ha hb hx
  have T0 : IntKind.i64.wrap ((h : Int) - 1) = (h : Int) - 1 := IntWalk.i64_in _ (by omega)
  go_wp2
  go_ret
  exact ⟨ret_int (by rw [HE.out]), (((Ext.refl _).alloc _).alloc _ |>.alloc _).trans HX.out⟩
def pgT (zs : List Int) (t : Int) : Int := if rcN zs t = 0 then 0 else nz zs (rcN zs t - 1)
abbrev PgV (n t : Int) : Value := .agg #[.int .i64 n, .int .i64 t]
theorem pg_done {n : Nat} {w F : World} {tmps : Array Value} {x y : Int} (B : Box F n [.int .i64 x, .int .i64 y]) (hC : Ext w F) (ha : tmps[4]? = some (.pointer (some ⟨n, 0, none⟩))) :
    bodyPost Tryz.prog Tryz.f60 (fun e w' => e = .returned (PgV x y) ∧ Ext w w') Exit.ret ⟨tmps, []⟩ F := by
  obtain ⟨⟨g0, g1⟩, _⟩ := B.two
  exact bodyPost_ret (v := PgV x y) (by simp [results, Tryz.f60, go_sem, ha, g0, g1]) rfl ⟨rfl, hC⟩
theorem progressAt_any (a : Option Addr) (cap : Nat) (zs : List Int) (t : Int) (w : World) (hz : Zxs w a zs) (hl : zs.length ≤ 1000) (hs : zs.Pairwise (· ≤ ·)) :
    Calls Tryz.prog 60 #[.slice a zs.length cap, .int .i64 t] w fun e w' => e = .returned (PgV (rcN zs t) (pgT zs t)) ∧ Ext w w' := by
  obtain ⟨W0, hW0⟩ : ∃ W0, W0 = w.alloc (.cells #[.int .i64 0, .int .i64 0] 113) := ⟨_, rfl⟩
  have HW := Lib.hid (show Ext w W0 from hW0 ▸ (Ext.refl w).alloc _)
  have BR := Lib.hid (show Box W0 w.heap.size [.int .i64 0, .int .i64 0] from hW0 ▸ Box.new2 rfl)
  have HZ := Lib.hid (hz.ext HW.out)
  have KL := Lib.hid (lastAtMost6_any a cap zs t W0 HZ.out hl hs)
  have hr := rc_le zs t
  have HP := Lib.hid (show pgT zs t = if rcN zs t = 0 then 0 else nz zs (rcN zs t - 1) from rfl)
  clear hz
  obtain ⟨R, hR⟩ : ∃ R, R = rcN zs t := ⟨_, rfl⟩
  rw [← hR] at KL hr HP ⊢
  clear hR
  by_cases h0 : R = 0
  · subst h0
    rw [if_pos rfl] at HP
    go_enter Tryz.func60, Tryz.ntmps60
    go_wp2_with fail
    rw [← hW0]
    clear hW0
    refine KL.out.mono ?_
    rintro e w1 ⟨rfl, hx⟩
    obtain ⟨⟨r0, r1⟩, r2, r3⟩ := (BR.out.ext hx).two
    have BS := Lib.hid ((BR.out.ext hx).set2 (u := .int .i64 0) (v := .int .i64 0))
    have XS := Lib.hid ((((HW.out.trans hx).setNew (p := ⟨w.heap.size, 0, none⟩) (by simp) (.int .i64 0))).setNew (p := ⟨w.heap.size, 1, none⟩) (by simp) (.int .i64 0))
    go_wp2
    rw [HP.out]
    exact pg_done BS.out XS.out rfl
  · rw [if_neg h0] at HP
    obtain ⟨b, off, rfl, hb⟩ := HZ.out.row (by omega)
    have c0 := hb (R - 1) (by omega)
    obtain ⟨n, rfl⟩ : ∃ n, R = n + 1 := ⟨R - 1, by omega⟩
    rw [Nat.add_sub_cancel] at c0 HP
    rw [show (((n + 1 : Nat) : Int) - 1) = (n : Int) by omega] at KL
    have j0 : (0 : Int) ≤ (n : Int) := by omega
    have j1 : (n : Int) < (zs.length : Int) := by omega
    have T1 : IntKind.i64.wrap ((n : Int) + 1) = ((n + 1 : Nat) : Int) := by rw [IntWalk.i64_in _ (by omega)]; omega
    clear hb
    go_enter Tryz.func60, Tryz.ntmps60
    go_wp2_with fail
    rw [← hW0]
    clear hW0
    refine KL.out.mono ?_
    rintro e w1 ⟨rfl, hx⟩
    replace c0 := hx.cellOf c0
    obtain ⟨⟨r0, r1⟩, r2, r3⟩ := (BR.out.ext hx).two
    have BS := Lib.hid ((BR.out.ext hx).set2 (u := .int .i64 ((n + 1 : Nat) : Int)) (v := .int .i64 (nz zs n)))
    have XS := Lib.hid ((((HW.out.trans hx).setNew (p := ⟨w.heap.size, 0, none⟩) (by simp) (.int .i64 ((n + 1 : Nat) : Int)))).setNew (p := ⟨w.heap.size, 1, none⟩) (by simp) (.int .i64 (nz zs n)))
    go_wp2
    rw [HP.out]
    exact pg_done BS.out XS.out rfl
end Go.Proofs.YtmlojndkpnhalaaGreat.Crs
