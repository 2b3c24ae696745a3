import Derived.Test.YtplbahdomjeekaaGreatZon5
import Derived.Test.YtplbahdomjeekaaGreatSid
namespace Go.Proofs.YtplbahdomjeekaaGreat.Crs
open Go.ChangeShapes Go.WideShapes Go.ChangeAt Go.RowKit Go.PlainAid
open Go.Proofs.YtplbahdomjeekaaGreat.Num Go.Proofs.YtplbahdomjeekaaGreat.Kit Go.Proofs.YtplbahdomjeekaaGreat.Pts Go.Proofs.YtplbahdomjeekaaGreat.Seg Go.Proofs.YtplbahdomjeekaaGreat.Div Go.Proofs.YtplbahdomjeekaaGreat.Root Go.Proofs.YtplbahdomjeekaaGreat.Rt Go.Proofs.YtplbahdomjeekaaGreat.Gcd
open Go.Proofs.YtplbahdomjeekaaGreat.Trk (F3 Fxs Tr trB fx lastB legOf pkX pkY pk_Co)

set_option linter.unusedVariables false
set_option linter.unusedSimpArgs false
def zaC (l k : L4) (ms : List M5) (fs : List F3) (n t : Int) : Int := if mfC l k ms (trB fs) n = 0 then (if lastB fs t = true then 0 else 2) else mfC l k ms (trB fs) n
def zaV (l k : L4) (ms : List M5) (fs : List F3) (n t : Int) : Bool := if zaC l k ms fs n t = 0 then izB (mk ms n.toNat) (pkX fs t (legOf fs t)) (pkY fs t (legOf fs t)) else false
def dmV (l k : L4) (ms : List M5) (fs : List F3) (n t : Int) : Int := if zaC l k ms fs n t = 0 then rt (sqD (pkX fs t (legOf fs t)) (pkY fs t (legOf fs t)) (mk ms n.toNat).x (mk ms n.toNat).y) else 0
theorem za_bad {l k : L4} {ms : List M5} {fs : List F3} {n t : Int} (g : mfC l k ms (trB fs) n ≠ 0) : zaC l k ms fs n t = mfC l k ms (trB fs) n ∧ zaV l k ms fs n t = false ∧ dmV l k ms fs n t = 0 := by
  have h : zaC l k ms fs n t = mfC l k ms (trB fs) n := if_neg g
  refine ⟨h, ?_, ?_⟩
  · unfold zaV; rw [if_neg (by rw [h]; exact g)]
  · unfold dmV; rw [if_neg (by rw [h]; exact g)]
theorem za_out {l k : L4} {ms : List M5} {fs : List F3} {n t : Int} (g : mfC l k ms (trB fs) n = 0) (h : lastB fs t = false) : zaC l k ms fs n t = 2 ∧ zaV l k ms fs n t = false ∧ dmV l k ms fs n t = 0 := by
  have h : zaC l k ms fs n t = 2 := by unfold zaC; rw [if_pos g, h]; rfl
  refine ⟨h, ?_, ?_⟩
  · unfold zaV; rw [if_neg (by rw [h]; decide)]
  · unfold dmV; rw [if_neg (by rw [h]; decide)]
theorem za_yes {l k : L4} {ms : List M5} {fs : List F3} {i : Nat} {t : Int} (g : mfC l k ms (trB fs) i = 0) (h : lastB fs t = true) : zaC l k ms fs i t = 0 ∧ zaV l k ms fs i t = izB (mk ms i) (pkX fs t (legOf fs t)) (pkY fs t (legOf fs t)) ∧ dmV l k ms fs i t = rt (sqD (pkX fs t (legOf fs t)) (pkY fs t (legOf fs t)) (mk ms i).x (mk ms i).y) := by
  have h : zaC l k ms fs i t = 0 := by unfold zaC; rw [if_pos g, h]; rfl
  refine ⟨h, ?_, ?_⟩
  · unfold zaV; rw [if_pos h]; simp
  · unfold dmV; rw [if_pos h]; simp
set_option maxRecDepth 100000 in
set_option maxHeartbeats 8000000 in
theorem distanceToMark_impl (l k : L4) (a : Option Addr) (cap : Nat) (ms : List M5) (n : Int) (at_ : Option Addr) (ct : Nat) (fs : List F3) (t : Int) (w : World) (hf : Mks w a ms) (ht : Fxs w at_ fs) (hcap : fs.length ≤ ct) :
    Calls Tryz.prog 19 #[CV l k (.slice a ms.length cap), .int .i64 n, Tr (.slice at_ fs.length ct), .int .i64 t] w fun e w' => e = .returned (.tuple #[.int .i64 (dmV l k ms fs n t), .int .i64 (zaC l k ms fs n t)]) ∧ Ext w w' := by
  obtain ⟨W0, hW0⟩ : ∃ W0, W0 = (w.alloc (.cells (cellsC l k (.slice a ms.length cap)).toArray 30)).alloc (.cells #[.slice at_ fs.length ct] 33) := ⟨_, rfl⟩
  have HW := Lib.hid (show Ext w W0 from hW0 ▸ ((Ext.refl w).alloc _).alloc _)
  have BB := Lib.hid (show Box W0 w.heap.size (cellsC l k (.slice a ms.length cap)) from hW0 ▸ (Box.new rfl).alloc _)
  have ctt : W0.cell? ⟨w.heap.size + 1, 0, none⟩ = some (.slice at_ fs.length ct) := hW0 ▸ boxed 0 rfl (by simp)
  have CT := Lib.hid ctt
  have HF := Lib.hid (hf.ext HW.out)
  have HT := Lib.hid (ht.ext HW.out)
  have zW : W0.heap.size = w.heap.size + 1 + 1 := by rw [hW0]; simp
  clear hf ht ctt
  obtain ⟨W1, hW1⟩ : ∃ W1, W1 = W0.alloc (.cells #[.slice at_ fs.length ct] 33) := ⟨_, rfl⟩
  have h1 : Ext W0 W1 := hW1 ▸ (Ext.refl W0).alloc _
  have TK := Lib.hid (Tks.one (w := W1) (b := w.heap.size + 1 + 1) (t := ⟨at_, ct, fs⟩) (hW1 ▸ boxed 0 rfl zW) (HT.out.ext h1))
  have KL := Lib.hid (markFor_any l k a cap ms n (some ⟨w.heap.size + 1 + 1, 0, none⟩) 1 [⟨at_, ct, fs⟩] W1 (HF.out.ext h1) TK.out)
  rw [tsB_one] at KL
  have X1 := Lib.hid h1
  clear h1 zW
  by_cases g : mfC l k ms (trB fs) n = 0
  rotate_left
  · have HY := Lib.hid (za_bad (t := t) g)
    have g1 : (mfC l k ms (trB fs) n != 0) = true := by simp [g]
    have g2 : (mfC l k ms (trB fs) n == 0) = false := beq_eq_false_iff_ne.2 g
    obtain ⟨C, hC⟩ : ∃ C, C = mfC l k ms (trB fs) n := ⟨_, rfl⟩
    have HC := Lib.hid hC
    rw [← hC] at KL g1 g2
    clear g hC
    go_enter Tryz.func19, Tryz.ntmps19
    go_wp2_with fail
    rw [← hW0, ← hW1]
    clear hW0 hW1
    refine KL.out.mono ?_
    rintro e w1 ⟨rfl, hx⟩
    go_wp2
    go_ret2
    exact ⟨ret_int2 HY.out.2.2 (HY.out.1.trans HC.out.symm), HW.out.trans (X1.out.trans (hx.alloc _))⟩
  obtain ⟨hq, hv, hn⟩ := mf_zero g
  obtain ⟨i, rfl⟩ : ∃ i : Nat, n = i := ⟨n.toNat, by omega⟩
  have hi : i < ms.length := by omega
  have hm := cr_mk hq hi
  have h2 := (Trk.trB_yes hv).1.1
  rw [mf_mk g, g] at KL
  have LS := Lib.hid (fun w' h => Trk.lastsAt_any at_ ct fs t w' h (by omega))
  cases hl : lastB fs t
  · have H := Lib.hid (za_out (t := t) g hl)
    rw [hl] at LS
    clear g hq hv hn hl hm
    obtain ⟨m, hm⟩ : ∃ m, m = mk ms i := ⟨_, rfl⟩
    rw [← hm] at KL
    clear hm
    go_enter Tryz.func19, Tryz.ntmps19
    go_wp2_with fail
    rw [← hW0, ← hW1]
    clear hW0 hW1
    refine KL.out.mono ?_
    rintro e w1 ⟨rfl, hx⟩
    have X2 := Lib.hid (X1.out.trans hx)
    have c9 : ∀ A, (w1.alloc A).cell? ⟨w.heap.size + 1, 0, none⟩ = some (.slice at_ fs.length ct) := fun A => ((Ext.refl w1).alloc A).cellOf (X2.out.cellOf CT.out)
    go_wp2_with fail
    refine (LS.out _ (HT.out.ext (X2.out.trans ((Ext.refl w1).alloc _)))).mono ?_
    rintro e w2 ⟨rfl, hy⟩
    go_wp2
    go_ret2
    exact ⟨ret_int2 H.out.2.2 H.out.1, HW.out.trans (X2.out.trans (((Ext.refl w1).alloc _).trans hy))⟩
  · have H := Lib.hid (za_yes (t := t) g hl)
    obtain ⟨d0, d1⟩ := pk_Co hv hl
    have PA := Lib.hid (fun w' h => Trk.positionAt_any at_ ct fs t w' h hcap hv hl)
    rw [hl] at LS
    clear g hq hv hn hl
    obtain ⟨m, hmm⟩ : ∃ m, m = mk ms i := ⟨_, rfl⟩
    rw [← hmm] at KL H hm
    clear hmm
    obtain ⟨P, hP⟩ : ∃ P, P = pkX fs t (legOf fs t) := ⟨_, rfl⟩
    obtain ⟨Q, hQ⟩ : ∃ Q, Q = pkY fs t (legOf fs t) := ⟨_, rfl⟩
    rw [← hP, ← hQ] at PA H
    rw [← hP] at d0
    rw [← hQ] at d1
    clear hP hQ
    obtain ⟨⟨mx, my⟩, _⟩ := mk_yes hm
    have PV := Lib.hid (fun w' => vectorTo_any P Q m.x m.y w' d0 d1 mx my)
    have PL := Lib.hid (fun w' => length_any (m.x - P) (m.y - Q) w' (by unfold Co at *; omega) (by unfold Co at *; omega))
    have HE := Lib.hid (show (m.x - P) * (m.x - P) + (m.y - Q) * (m.y - Q) = sqD P Q m.x m.y from rfl)
    rw [HE.out] at PL
    clear mx my
    clear d0 d1 hm
    go_enter Tryz.func19, Tryz.ntmps19
    go_wp2_with fail
    rw [← hW0, ← hW1]
    clear hW0 hW1
    refine KL.out.mono ?_
    rintro e w1 ⟨rfl, hx⟩
    have X2 := Lib.hid (X1.out.trans hx)
    obtain ⟨W2, hW2⟩ : ∃ W2, W2 = w1.alloc (.cells #[.string m.n, .int .i64 m.x, .int .i64 m.y, .int .i64 m.s, .int .i64 m.z] 45) := ⟨_, rfl⟩
    have h2 : Ext w1 W2 := hW2 ▸ (Ext.refl w1).alloc _
    have BM := Lib.hid (show Box W2 w1.heap.size [.string m.n, .int .i64 m.x, .int .i64 m.y, .int .i64 m.s, .int .i64 m.z] from hW2 ▸ Box.new rfl)
    have c9 : ∀ A, (w1.alloc A).cell? ⟨w.heap.size + 1, 0, none⟩ = some (.slice at_ fs.length ct) := fun A => ((Ext.refl w1).alloc A).cellOf (X2.out.cellOf CT.out)
    go_wp2_with fail
    rw [← hW2]
    clear hW2
    have c8 := h2.cellOf (X2.out.cellOf CT.out)
    replace X2 := Lib.hid (X2.out.trans h2)
    refine (LS.out _ (HT.out.ext X2.out)).mono ?_
    rintro e w3 ⟨rfl, hy⟩
    have X3 := Lib.hid (X2.out.trans hy)
    have B3 := Lib.hid (BM.out.ext hy)
    have f9 : ∀ w', Ext w3 w' → w'.cell? ⟨w.heap.size + 1, 0, none⟩ = some (.slice at_ fs.length ct) := fun w' h => h.cellOf (hy.cellOf c8)
    have f0 : ∀ w', Ext w3 w' → w'.cell? ⟨w1.heap.size, 0, none⟩ = some (.string m.n) := fun w' h => h.cellOf (B3.out 0 _ rfl).1
    have f1 : ∀ w', Ext w3 w' → w'.cell? ⟨w1.heap.size, 1, none⟩ = some (.int .i64 m.x) := fun w' h => h.cellOf (B3.out 1 _ rfl).1
    have f2 : ∀ w', Ext w3 w' → w'.cell? ⟨w1.heap.size, 2, none⟩ = some (.int .i64 m.y) := fun w' h => h.cellOf (B3.out 2 _ rfl).1
    have f3 : ∀ w', Ext w3 w' → w'.cell? ⟨w1.heap.size, 3, none⟩ = some (.int .i64 m.s) := fun w' h => h.cellOf (B3.out 3 _ rfl).1
    have f4 : ∀ w', Ext w3 w' → w'.cell? ⟨w1.heap.size, 4, none⟩ = some (.int .i64 m.z) := fun w' h => h.cellOf (B3.out 4 _ rfl).1
    clear hx hy h2 c9 c8
    go_upto_region 6 with fail
    refine wp_region_held_drew (S := (fun w' => Ext w3 w')) (by kernel_rfl) (by (try dsimp only); first | go_keep | exact (Ext.refl _).drew | exact Res.new2.drew | exact Res.new4.drew | exact ResB.drew (by assumption) | exact ResC.drew (by assumption) | assumption | exact Ext.drew (by assumption) | exact Res.drew (by assumption)) (fun hHeld => ?_)
    (refine Ord.k 0 27 (v := ?_) ?_ ?_; rotate_left; (intro w h; (try dsimp only at h); go_simp; (try with_reducible rfl)); (try simp only [Act.put, Ord.a, Ord.b, Ord.c]))
    (refine Ord.k 1 28 (v := ?_) ?_ ?_; rotate_left; (intro w h; (try dsimp only at h); go_simp; (try with_reducible rfl)); (try simp only [Act.put, Ord.a, Ord.b, Ord.c]))
    (refine Ord.k 3 30 (v := ?_) ?_ ?_; rotate_left; (intro w h; (try dsimp only at h); go_simp; (try with_reducible rfl)); (try simp only [Act.put, Ord.a, Ord.b, Ord.c]))
    (refine Ord.k 4 31 (v := ?_) ?_ ?_; rotate_left; (intro w h; (try dsimp only at h); go_simp; (try with_reducible rfl)); (try simp only [Act.put, Ord.a, Ord.b, Ord.c]))
    (refine wpAnyH_ready (rs := [2]) (by kernel_rfl) (by simp) ?_; refine AllReadyH.cons rfl (fun K hK => ?_) AllReadyH.nil; go_simp; (first | (go_at_call 72; refine (PA.out _ (HT.out.ext (X3.out.trans (by first | assumption | exact (Ext.refl _).drew)))).mono ?_; rintro e w4 ⟨rfl, hy⟩) | (go_at_call 77; refine (PV.out _).mono ?_; rintro e w5 ⟨rfl, hy⟩) | (go_at_call 78; refine (PL.out _).mono ?_; rintro e w6 ⟨rfl, hy⟩)); go_wp2_with fail; (refine hK.out _ _ (by first | assumption | exact Ext.trans (by assumption) hy | exact Res.ext (by assumption) hy | exact ResB.ext (by assumption) hy | exact ResC.ext (by assumption) hy | (go_split_ands; (repeat' apply And.intro) <;> exact Ext.cellOf hy (by assumption))) (fun hHeld => ?_)); clear hK K; (try simp only [Act.put, Ord.a, Ord.b, Ord.c]))
    (refine wpAnyH_ready (rs := [5]) (by kernel_rfl) (by simp) ?_; refine AllReadyH.cons rfl (fun K hK => ?_) AllReadyH.nil; go_simp; (first | (go_at_call 72; refine (PA.out _ (HT.out.ext (X3.out.trans (by first | assumption | exact (Ext.refl _).drew)))).mono ?_; rintro e w4 ⟨rfl, hy⟩) | (go_at_call 77; refine (PV.out _).mono ?_; rintro e w5 ⟨rfl, hy⟩) | (go_at_call 78; refine (PL.out _).mono ?_; rintro e w6 ⟨rfl, hy⟩)); go_wp2_with fail; (refine hK.out _ _ (by first | assumption | exact Ext.trans (by assumption) hy | exact Res.ext (by assumption) hy | exact ResB.ext (by assumption) hy | exact ResC.ext (by assumption) hy | (go_split_ands; (repeat' apply And.intro) <;> exact Ext.cellOf hy (by assumption))) (fun hHeld => ?_)); clear hK K; (try simp only [Act.put, Ord.a, Ord.b, Ord.c]))
    (refine wpAnyH_ready (rs := [6]) (by kernel_rfl) (by simp) ?_; refine AllReadyH.cons rfl (fun K hK => ?_) AllReadyH.nil; go_simp; (first | (go_at_call 72; refine (PA.out _ (HT.out.ext (X3.out.trans (by first | assumption | exact (Ext.refl _).drew)))).mono ?_; rintro e w4 ⟨rfl, hy⟩) | (go_at_call 77; refine (PV.out _).mono ?_; rintro e w5 ⟨rfl, hy⟩) | (go_at_call 78; refine (PL.out _).mono ?_; rintro e w6 ⟨rfl, hy⟩)); go_wp2_with fail; (refine hK.out _ _ (by first | assumption | exact Ext.trans (by assumption) hy | exact Res.ext (by assumption) hy | exact ResB.ext (by assumption) hy | exact ResC.ext (by assumption) hy | (go_split_ands; (repeat' apply And.intro) <;> exact Ext.cellOf hy (by assumption))) (fun hHeld => ?_)); clear hK K; (try simp only [Act.put, Ord.a, Ord.b, Ord.c]))
    (refine Ord.k 7 8 (v := ?_) ?_ ?_; rotate_left; (intro w h; (try dsimp only at h); go_simp; (try with_reducible rfl)); (try simp only [Act.put, Ord.a, Ord.b, Ord.c]))
    (refine Ord.k 8 9 (v := ?_) ?_ ?_; rotate_left; (intro w h; (try dsimp only at h); go_simp; (try with_reducible rfl)); (try simp only [Act.put, Ord.a, Ord.b, Ord.c]))
    refine wpAnyH_done (by kernel_rfl) ?_ _
    go_wp2
    go_ret2
    exact ⟨ret_int2 H.out.2.2 H.out.1, HW.out.trans (X3.out.trans hHeld)⟩
end Go.Proofs.YtplbahdomjeekaaGreat.Crs
