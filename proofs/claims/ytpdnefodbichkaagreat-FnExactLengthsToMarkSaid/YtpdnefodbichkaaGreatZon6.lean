import Derived.Test.YtpdnefodbichkaaGreatZon5
import Derived.Test.YtpdnefodbichkaaGreatSid
import Derived.Test.YtpdnefodbichkaaGreatIpd
namespace Go.Proofs.YtpdnefodbichkaaGreat.Crs
open Go.ChangeShapes Go.WideShapes Go.ChangeAt Go.RowKit Go.PlainAid
open Go.Proofs.YtpdnefodbichkaaGreat.Num Go.Proofs.YtpdnefodbichkaaGreat.Kit Go.Proofs.YtpdnefodbichkaaGreat.Pts Go.Proofs.YtpdnefodbichkaaGreat.Seg Go.Proofs.YtpdnefodbichkaaGreat.Div Go.Proofs.YtpdnefodbichkaaGreat.Root Go.Proofs.YtpdnefodbichkaaGreat.Rt Go.Proofs.YtpdnefodbichkaaGreat.Gcd
open Go.Proofs.YtpdnefodbichkaaGreat.Trk (F3 Fxs Tr trB fx lastB legOf pkX pkY pk_Co)

set_option linter.unusedVariables false
set_option linter.unusedSimpArgs false
def zaC (l k : L4) (ms : List M5) (fs : List F3) (n t : Int) : Int := if mfC l k ms (trB fs) n = 0 then (if lastB fs t = true then 0 else 2) else mfC l k ms (trB fs) n
def zaV (l k : L4) (ms : List M5) (fs : List F3) (n t : Int) : Bool := if zaC l k ms fs n t = 0 then izB (mk ms n.toNat) (pkX fs t (legOf fs t)) (pkY fs t (legOf fs t)) else false
def dmV (l k : L4) (ms : List M5) (fs : List F3) (n t : Int) : Int := if zaC l k ms fs n t = 0 then rt (sqD (pkX fs t (legOf fs t)) (pkY fs t (legOf fs t)) (mk ms n.toNat).x (mk ms n.toNat).y) else 0
theorem za_bad {l k : L4} {ms : List M5} {fs : List F3} {n t : Int} (g : mfC l k ms (trB fs) n ≠ 0) : zaC l k ms fs n t = mfC l k ms (trB fs) n ∧ zaV l k ms fs n t = false ∧ dmV l k ms fs n t = 0 := by
  have h : zaC l k ms fs n t = mfC l k ms (trB fs) n := if_neg g
  refine ⟨h, ?_, ?_⟩
  · unfold zaV; rw [if_neg (by rw [h]; exact g)]
  · unfold dmV; rw [if_neg (by rw [h]; exact g)]
theorem za_out {l k : L4} {ms : List M5} {fs : List F3} {n t : Int} (g : mfC l k ms (trB fs) n = 0) (h : lastB fs t = false) : zaC l k ms fs n t = 2 ∧ zaV l k ms fs n t = false ∧ dmV l k ms fs n t = 0 := by
  have h : zaC l k ms fs n t = 2 := by unfold zaC; rw [if_pos g, h]; rfl
  refine ⟨h, ?_, ?_⟩
  · unfold zaV; rw [if_neg (by rw [h]; decide)]
  · unfold dmV; rw [if_neg (by rw [h]; decide)]
theorem za_yes {l k : L4} {ms : List M5} {fs : List F3} {i : Nat} {t : Int} (g : mfC l k ms (trB fs) i = 0) (h : lastB fs t = true) : zaC l k ms fs i t = 0 ∧ zaV l k ms fs i t = izB (mk ms i) (pkX fs t (legOf fs t)) (pkY fs t (legOf fs t)) ∧ dmV l k ms fs i t = rt (sqD (pkX fs t (legOf fs t)) (pkY fs t (legOf fs t)) (mk ms i).x (mk ms i).y) := by
  have h : zaC l k ms fs i t = 0 := by unfold zaC; rw [if_pos g, h]; rfl
  refine ⟨h, ?_, ?_⟩
  · unfold zaV; rw [if_pos h]; simp
  · unfold dmV; rw [if_pos h]; simp
set_option maxRecDepth 100000 in
set_option maxHeartbeats 8000000 in
theorem distanceToMark_impl (l k : L4) (a : Option Addr) (cap : Nat) (ms : List M5) (n : Int) (at_ : Option Addr) (ct : Nat) (fs : List F3) (t : Int) (w : World) (hf : Mks w a ms) (ht : Fxs w at_ fs) (hcap : fs.length ≤ ct) :
    Calls Tryz.prog 90 #[CV l k (.slice a ms.length cap), .int .i64 n, Tr (.slice at_ fs.length ct), .int .i64 t] w fun e w' => e = .returned (.tuple #[.int .i64 (dmV l k ms fs n t), .int .i64 (zaC l k ms fs n t)]) ∧ Ext w w' := by
  obtain ⟨W0, hW0⟩ : ∃ W0, W0 = (w.alloc (.cells (cellsC l k (.slice a ms.length cap)).toArray 30)).alloc (.cells #[.slice at_ fs.length ct] 33) := ⟨_, rfl⟩
  have HW := Lib.hid (show Ext w W0 from hW0 ▸ ((Ext.refl w).alloc _).alloc _)
  have BB := Lib.hid (show Box W0 w.heap.size (cellsC l k (.slice a ms.length cap)) from hW0 ▸ (Box.new rfl).alloc _)
  have ctt : W0.cell? ⟨w.heap.size + 1, 0, none⟩ = some (.slice at_ fs.length ct) := hW0 ▸ boxed 0 rfl (by simp)
  have CT := Lib.hid ctt
  have HF := Lib.hid (hf.ext HW.out)
  have HT := Lib.hid (ht.ext HW.out)
  have zW : W0.heap.size = w.heap.size + 1 + 1 := by rw [hW0]; simp
  clear hf ht ctt
  obtain ⟨W1, hW1⟩ : ∃ W1, W1 = W0.alloc (.cells #[.slice at_ fs.length ct] 33) := ⟨_, rfl⟩
  have h1 : Ext W0 W1 := hW1 ▸ (Ext.refl W0).alloc _
  have TK := Lib.hid (Tks.one (w := W1) (b := w.heap.size + 1 + 1) (t := ⟨at_, ct, fs⟩) (hW1 ▸ boxed 0 rfl zW) (HT.out.ext h1))
  have KL := Lib.hid (markFor_any l k a cap ms n (some ⟨w.heap.size + 1 + 1, 0, none⟩) 1 [⟨at_, ct, fs⟩] W1 (HF.out.ext h1) TK.out)
  rw [tsB_one] at KL
  have X1 := Lib.hid h1
  clear h1 zW
  by_cases g : mfC l k ms (trB fs) n = 0
  rotate_left
  · have HY := Lib.hid (za_bad (t := t) g)
    have g1 : (mfC l k ms (trB fs) n != 0) = true := by simp [g]
    have g2 : (mfC l k ms (trB fs) n == 0) = false := beq_eq_false_iff_ne.2 g
    obtain ⟨C, hC⟩ : ∃ C, C = mfC l k ms (trB fs) n := ⟨_, rfl⟩
    have HC := Lib.hid hC
    rw [← hC] at KL g1 g2
    clear g hC
    go_enter Tryz.func90, Tryz.ntmps90
    go_wp2_with fail
    rw [← hW0, ← hW1]
    clear hW0 hW1
    refine KL.out.mono ?_
    rintro e w1 ⟨rfl, hx⟩
    go_wp2
    go_ret2
    exact ⟨ret_int2 HY.out.2.2 (HY.out.1.trans HC.out.symm), HW.out.trans (X1.out.trans (hx.alloc _))⟩
  obtain ⟨hq, hv, hn⟩ := mf_zero g
  obtain ⟨i, rfl⟩ : ∃ i : Nat, n = i := ⟨n.toNat, by omega⟩
  have hi : i < ms.length := by omega
  have hm := cr_mk hq hi
  have h2 := (Trk.trB_yes hv).1.1
  rw [mf_mk g, g] at KL
  have LS := Lib.hid (fun w' h => Trk.lastsAt_any at_ ct fs t w' h (by omega))
  cases hl : lastB fs t
  · have H := Lib.hid (za_out (t := t) g hl)
    rw [hl] at LS
    clear g hq hv hn hl hm
    obtain ⟨m, hm⟩ : ∃ m, m = mk ms i := ⟨_, rfl⟩
    rw [← hm] at KL
    clear hm
    go_enter Tryz.func90, Tryz.ntmps90
    go_wp2_with fail
    rw [← hW0, ← hW1]
    clear hW0 hW1
    refine KL.out.mono ?_
    rintro e w1 ⟨rfl, hx⟩
    have X2 := Lib.hid (X1.out.trans hx)
    have c9 : ∀ A, (w1.alloc A).cell? ⟨w.heap.size + 1, 0, none⟩ = some (.slice at_ fs.length ct) := fun A => ((Ext.refl w1).alloc A).cellOf (X2.out.cellOf CT.out)
    go_wp2_with fail
    refine (LS.out _ (HT.out.ext (X2.out.trans ((Ext.refl w1).alloc _)))).mono ?_
    rintro e w2 ⟨rfl, hy⟩
    go_wp2
    go_ret2
    exact ⟨ret_int2 H.out.2.2 H.out.1, HW.out.trans (X2.out.trans (((Ext.refl w1).alloc _).trans hy))⟩
  · have H := Lib.hid (za_yes (t := t) g hl)
    obtain ⟨d0, d1⟩ := pk_Co hv hl
    have PA := Lib.hid (fun w' h => Trk.positionAt_any at_ ct fs t w' h hcap hv hl)
    rw [hl] at LS
    clear g hq hv hn hl
    obtain ⟨m, hmm⟩ : ∃ m, m = mk ms i := ⟨_, rfl⟩
    rw [← hmm] at KL H hm
    clear hmm
    obtain ⟨P, hP⟩ : ∃ P, P = pkX fs t (legOf fs t) := ⟨_, rfl⟩
    obtain ⟨Q, hQ⟩ : ∃ Q, Q = pkY fs t (legOf fs t) := ⟨_, rfl⟩
    rw [← hP, ← hQ] at PA H
    rw [← hP] at d0
    rw [← hQ] at d1
    clear hP hQ
    obtain ⟨⟨mx, my⟩, _⟩ := mk_yes hm
    have PV := Lib.hid (fun w' => vectorTo_any P Q m.x m.y w' d0 d1 mx my)
    have PL := Lib.hid (fun w' => length_any (m.x - P) (m.y - Q) w' (by unfold Co at *; omega) (by unfold Co at *; omega))
    have HE := Lib.hid (show (m.x - P) * (m.x - P) + (m.y - Q) * (m.y - Q) = sqD P Q m.x m.y from rfl)
    rw [HE.out] at PL
    clear mx my
    clear d0 d1 hm
    go_enter Tryz.func90, Tryz.ntmps90
    go_wp2_with fail
    rw [← hW0, ← hW1]
    clear hW0 hW1
    refine KL.out.mono ?_
    rintro e w1 ⟨rfl, hx⟩
    have X2 := Lib.hid (X1.out.trans hx)
    obtain ⟨W2, hW2⟩ : ∃ W2, W2 = w1.alloc (.cells #[.string m.n, .int .i64 m.x, .int .i64 m.y, .int .i64 m.s, .int .i64 m.z] 161) := ⟨_, rfl⟩
    have h2 : Ext w1 W2 := hW2 ▸ (Ext.refl w1).alloc _
    have BM := Lib.hid (show Box W2 w1.heap.size [.string m.n, .int .i64 m.x, .int .i64 m.y, .int .i64 m.s, .int .i64 m.z] from hW2 ▸ Box.new rfl)
    have c9 : ∀ A, (w1.alloc A).cell? ⟨w.heap.size + 1, 0, none⟩ = some (.slice at_ fs.length ct) := fun A => ((Ext.refl w1).alloc A).cellOf (X2.out.cellOf CT.out)
    go_wp2_with fail
    rw [← hW2]
    clear hW2
    have c8 := h2.cellOf (X2.out.cellOf CT.out)
    replace X2 := Lib.hid (X2.out.trans h2)
    refine (LS.out _ (HT.out.ext X2.out)).mono ?_
    rintro e w3 ⟨rfl, hy⟩
    have X3 := Lib.hid (X2.out.trans hy)
    have B3 := Lib.hid (BM.out.ext hy)
    have f9 : ∀ w', Ext w3 w' → w'.cell? ⟨w.heap.size + 1, 0, none⟩ = some (.slice at_ fs.length ct) := fun w' h => h.cellOf (hy.cellOf c8)
    have f0 : ∀ w', Ext w3 w' → w'.cell? ⟨w1.heap.size, 0, none⟩ = some (.string m.n) := fun w' h => h.cellOf (B3.out 0 _ rfl).1
    have f1 : ∀ w', Ext w3 w' → w'.cell? ⟨w1.heap.size, 1, none⟩ = some (.int .i64 m.x) := fun w' h => h.cellOf (B3.out 1 _ rfl).1
    have f2 : ∀ w', Ext w3 w' → w'.cell? ⟨w1.heap.size, 2, none⟩ = some (.int .i64 m.y) := fun w' h => h.cellOf (B3.out 2 _ rfl).1
    have f3 : ∀ w', Ext w3 w' → w'.cell? ⟨w1.heap.size, 3, none⟩ = some (.int .i64 m.s) := fun w' h => h.cellOf (B3.out 3 _ rfl).1
    have f4 : ∀ w', Ext w3 w' → w'.cell? ⟨w1.heap.size, 4, none⟩ = some (.int .i64 m.z) := fun w' h => h.cellOf (B3.out 4 _ rfl).1
    clear hx hy h2 c9 c8
    go_upto_region 6 with fail
    refine wp_region_held_drew (S := (fun w' => Ext w3 w')) (by kernel_rfl) (by (try dsimp only); first | go_keep | exact (Ext.refl _).drew | exact Res.new2.drew | exact Res.new4.drew | exact ResB.drew (by assumption) | exact ResC.drew (by assumption) | assumption | exact Ext.drew (by assumption) | exact Res.drew (by assumption)) (fun hHeld => ?_)
    refine Ord.K 0 27 ?_
    refine Ord.K 1 28 ?_
    refine Ord.K 3 30 ?_
    refine Ord.K 4 31 ?_
    (refine wpAnyH_ready (rs := [2]) (by kernel_rfl) (by simp) ?_; refine AllReadyH.cons rfl (fun K hK => ?_) AllReadyH.nil; go_simp; (first | (go_at_call 84; refine (PA.out _ (HT.out.ext (X3.out.trans (by first | assumption | exact (Ext.refl _).drew)))).mono ?_; rintro e w4 ⟨rfl, hy⟩) | (go_at_call 85; refine (PV.out _).mono ?_; rintro e w5 ⟨rfl, hy⟩) | (go_at_call 86; refine (PL.out _).mono ?_; rintro e w6 ⟨rfl, hy⟩)); go_wp2_with fail; (refine hK.out _ _ (by first | assumption | exact Ext.trans (by assumption) hy | exact Res.ext (by assumption) hy | exact ResB.ext (by assumption) hy | exact ResC.ext (by assumption) hy | (go_split_ands; (repeat' apply And.intro) <;> exact Ext.cellOf hy (by assumption))) (fun hHeld => ?_)); clear hK K; (try simp only [Act.put, Ord.a, Ord.b, Ord.c]))
    (refine wpAnyH_ready (rs := [5]) (by kernel_rfl) (by simp) ?_; refine AllReadyH.cons rfl (fun K hK => ?_) AllReadyH.nil; go_simp; (first | (go_at_call 84; refine (PA.out _ (HT.out.ext (X3.out.trans (by first | assumption | exact (Ext.refl _).drew)))).mono ?_; rintro e w4 ⟨rfl, hy⟩) | (go_at_call 85; refine (PV.out _).mono ?_; rintro e w5 ⟨rfl, hy⟩) | (go_at_call 86; refine (PL.out _).mono ?_; rintro e w6 ⟨rfl, hy⟩)); go_wp2_with fail; (refine hK.out _ _ (by first | assumption | exact Ext.trans (by assumption) hy | exact Res.ext (by assumption) hy | exact ResB.ext (by assumption) hy | exact ResC.ext (by assumption) hy | (go_split_ands; (repeat' apply And.intro) <;> exact Ext.cellOf hy (by assumption))) (fun hHeld => ?_)); clear hK K; (try simp only [Act.put, Ord.a, Ord.b, Ord.c]))
    (refine wpAnyH_ready (rs := [6]) (by kernel_rfl) (by simp) ?_; refine AllReadyH.cons rfl (fun K hK => ?_) AllReadyH.nil; go_simp; (first | (go_at_call 84; refine (PA.out _ (HT.out.ext (X3.out.trans (by first | assumption | exact (Ext.refl _).drew)))).mono ?_; rintro e w4 ⟨rfl, hy⟩) | (go_at_call 85; refine (PV.out _).mono ?_; rintro e w5 ⟨rfl, hy⟩) | (go_at_call 86; refine (PL.out _).mono ?_; rintro e w6 ⟨rfl, hy⟩)); go_wp2_with fail; (refine hK.out _ _ (by first | assumption | exact Ext.trans (by assumption) hy | exact Res.ext (by assumption) hy | exact ResB.ext (by assumption) hy | exact ResC.ext (by assumption) hy | (go_split_ands; (repeat' apply And.intro) <;> exact Ext.cellOf hy (by assumption))) (fun hHeld => ?_)); clear hK K; (try simp only [Act.put, Ord.a, Ord.b, Ord.c]))
    refine Ord.K 7 8 ?_
    refine Ord.K 8 9 ?_
    refine wpAnyH_done (by kernel_rfl) ?_ _
    go_wp2
    go_ret2
    exact ⟨ret_int2 H.out.2.2 H.out.1, HW.out.trans (X3.out.trans hHeld)⟩
set_option maxRecDepth 100000 in
set_option maxHeartbeats 8000000 in
theorem distanceToMark_spec (l k : L4) (a : Option Addr) (cap : Nat) (ms : List M5) (n : Int) (at_ : Option Addr) (ct : Nat) (fs : List F3) (t : Int) (w : World) (hf : Mks w a ms) (ht : Fxs w at_ fs) :
    Calls Tryz.prog 89 #[CV l k (.slice a ms.length cap), .int .i64 n, Tr (.slice at_ fs.length ct), .int .i64 t] w fun e w' => e = .returned (.tuple #[.int .i64 (dmV l k ms fs n t), .int .i64 (zaC l k ms fs n t)]) ∧ Ext w w' := by
  obtain ⟨W0, hW0⟩ : ∃ W0, W0 = (w.alloc (.cells (cellsC l k (.slice a ms.length cap)).toArray 30)).alloc (.cells #[.slice at_ fs.length ct] 33) := ⟨_, rfl⟩
  have HW := Lib.hid (show Ext w W0 from hW0 ▸ ((Ext.refl w).alloc _).alloc _)
  have BB := Lib.hid (show Box W0 w.heap.size (cellsC l k (.slice a ms.length cap)) from hW0 ▸ (Box.new rfl).alloc _)
  have ctt : W0.cell? ⟨w.heap.size + 1, 0, none⟩ = some (.slice at_ fs.length ct) := hW0 ▸ boxed 0 rfl (by simp)
  have CT := Lib.hid ctt
  have HF := Lib.hid (hf.ext HW.out)
  have HT := Lib.hid (ht.ext HW.out)
  clear hf ht ctt
  have KL := Lib.hid (l07Code_spec l k a cap ms n at_ ct fs W0 HF.out HT.out)
  by_cases g : mfC l k ms (trB fs) n = 0
  rotate_left
  · have HY := Lib.hid (za_bad (t := t) g)
    have g1 : (mfC l k ms (trB fs) n != 0) = true := by simp [g]
    have g2 : (mfC l k ms (trB fs) n == 0) = false := beq_eq_false_iff_ne.2 g
    obtain ⟨C, hC⟩ : ∃ C, C = mfC l k ms (trB fs) n := ⟨_, rfl⟩
    have HC := Lib.hid hC
    rw [← hC] at KL g1 g2
    clear g hC
    go_enter Tryz.func89, Tryz.ntmps89
    go_wp2_with fail
    rw [← hW0]
    clear hW0
    refine KL.out.mono ?_
    rintro e w1 ⟨rfl, hx⟩
    go_wp2
    go_ret2
    exact ⟨ret_int2 HY.out.2.2 (HY.out.1.trans HC.out.symm), HW.out.trans hx⟩
  obtain ⟨hq, hv, hn⟩ := mf_zero g
  obtain ⟨i, rfl⟩ : ∃ i : Nat, n = i := ⟨n.toNat, by omega⟩
  have hi : i < ms.length := by omega
  have hm := cr_mk hq hi
  have h2 := (Trk.trB_yes hv).1.1
  rw [g] at KL
  have LS := Lib.hid (fun w' h => Trk.lasts_spec at_ ct fs t w' h (by omega))
  cases hl : lastB fs t
  · have H := Lib.hid (za_out (t := t) g hl)
    rw [hl] at LS
    clear g hq hv hn hl hm
    go_enter Tryz.func89, Tryz.ntmps89
    go_wp2_with fail
    rw [← hW0]
    clear hW0
    refine KL.out.mono ?_
    rintro e w1 ⟨rfl, hx⟩
    have X2 := Lib.hid hx
    have c9 := X2.out.cellOf CT.out
    go_wp2_with fail
    refine (LS.out _ (HT.out.ext X2.out)).mono ?_
    rintro e w2 ⟨rfl, hy⟩
    go_wp2
    go_ret2
    exact ⟨ret_int2 H.out.2.2 H.out.1, HW.out.trans (X2.out.trans hy)⟩
  · have H := Lib.hid (za_yes (t := t) g hl)
    obtain ⟨d0, d1⟩ := pk_Co hv hl
    have PA := Lib.hid (fun w' h => Trk.at_spec at_ ct fs t w' h hv hl)
    rw [hl] at LS
    obtain ⟨b, off, rfl, hb⟩ := HF.out.row (by omega)
    obtain ⟨k0, k1, k2, k3, k4⟩ := hb i hi
    clear g hq hv hn hl hb
    obtain ⟨m, hmm⟩ : ∃ m, m = mk ms i := ⟨_, rfl⟩
    rw [← hmm] at H hm k0 k1 k2 k3 k4
    clear hmm
    obtain ⟨P, hP⟩ : ∃ P, P = pkX fs t (legOf fs t) := ⟨_, rfl⟩
    obtain ⟨Q, hQ⟩ : ∃ Q, Q = pkY fs t (legOf fs t) := ⟨_, rfl⟩
    rw [← hP, ← hQ] at PA H
    rw [← hP] at d0
    rw [← hQ] at d1
    clear hP hQ
    obtain ⟨⟨mx, my⟩, _, z1, z2⟩ := mk_yes hm
    have PV := Lib.hid (fun w' => square_any P Q m.x m.y w' d0 d1 mx my)
    obtain ⟨b0, b1⟩ := sqs_bd (x := m.x - P) (y := m.y - Q) (by unfold Co at *; omega) (by unfold Co at *; omega)
    have HE : (m.x - P) * (m.x - P) + (m.y - Q) * (m.y - Q) = sqD P Q m.x m.y := rfl
    rw [HE] at b0 b1
    have PL := Lib.hid (fun w' => rootE (sqD P Q m.x m.y) w' b0 (by omega))
    have Z := zzS_bd z1 z2
    have HU := Lib.hid (show izB m P Q = decide (sqD P Q m.x m.y ≤ m.z * m.z) from rfl)
    obtain ⟨S, hS⟩ : ∃ S, S = sqD P Q m.x m.y := ⟨_, rfl⟩
    rw [← hS] at PV PL HU H
    rw [HU.out] at H
    have r0 : (0 : Int) ≤ (i : Int) := by omega
    have r1 : (i : Int) < (ms.length : Int) := by omega
    clear d0 d1 hm mx my b0 b1 HE z1 z2 hS
    go_enter Tryz.func89, Tryz.ntmps89
    go_wp2_with fail
    rw [← hW0]
    clear hW0
    refine KL.out.mono ?_
    rintro e w1 ⟨rfl, hx⟩
    have X2 := Lib.hid hx
    obtain ⟨⟨p0, p1, p2, p3, p4, p5, p6, p7, p8⟩, _⟩ := Box.nine (BB.out.ext X2.out)
    have c9 := X2.out.cellOf CT.out
    go_wp2_with fail
    refine (LS.out _ (HT.out.ext X2.out)).mono ?_
    rintro e w3 ⟨rfl, hy⟩
    have X3 := Lib.hid (X2.out.trans hy)
    clear p0 p1 p2 p3 p4 p5 p6 p7 p8 c9
    obtain ⟨⟨p0, p1, p2, p3, p4, p5, p6, p7, p8⟩, _⟩ := Box.nine (BB.out.ext X3.out)
    replace k0 := X3.out.cellOf k0
    replace k1 := X3.out.cellOf k1
    replace k2 := X3.out.cellOf k2
    replace k3 := X3.out.cellOf k3
    replace k4 := X3.out.cellOf k4
    have c9 := X3.out.cellOf CT.out
    clear hx hy
    go_upto_region 6 with fail
    have f9 : ∀ w', Ext w3 w' → w'.cell? ⟨w.heap.size + 1, 0, none⟩ = some (.slice at_ fs.length ct) := fun w' h => h.cellOf c9
    have f8 : ∀ w', Ext w3 w' → w'.cell? ⟨w.heap.size, 8, none⟩ = some (.slice (some ⟨b, off, none⟩) ms.length cap) := fun w' h => h.cellOf p8
    have f1 : ∀ w', Ext w3 w' → w'.cell? ⟨b, off + i * 5 + 1, none⟩ = some (.int .i64 m.x) := fun w' h => h.cellOf k1
    have f2 : ∀ w', Ext w3 w' → w'.cell? ⟨b, off + i * 5 + 2, none⟩ = some (.int .i64 m.y) := fun w' h => h.cellOf k2
    clear c9 k0 k1 k2 k3 k4 p0 p1 p2 p3 p4 p5 p6 p7 p8
    refine wp_region_held_drew (S := (fun w' => Ext w3 w')) (by kernel_rfl) (by (try dsimp only); first | go_keep | exact (Ext.refl _).drew | exact Res.new2.drew | exact Res.new4.drew | exact ResB.drew (by assumption) | exact ResC.drew (by assumption) | assumption | exact Ext.drew (by assumption) | exact Res.drew (by assumption)) (fun hHeld => ?_)
    refine Ord.K 0 22 ?_
    refine Ord.K 1 23 ?_
    refine Ord.K 3 25 ?_
    refine Ord.K 4 26 ?_
    refine Ord.K 5 27 ?_
    refine Ord.K 6 28 ?_
    refine Ord.K 7 29 ?_
    refine Ord.K 8 30 ?_
    (refine wpAnyH_ready (rs := [2]) (by kernel_rfl) (by simp) ?_; refine AllReadyH.cons rfl (fun K hK => ?_) AllReadyH.nil; go_simp; (first | (go_at_call 82; refine (PA.out _ (HT.out.ext (X3.out.trans (by first | assumption | exact (Ext.refl _).drew)))).mono ?_; rintro e w4 ⟨rfl, hy⟩) | (go_at_call 81; refine (PV.out _).mono ?_; rintro e w5 ⟨rfl, hy⟩) | (go_at_call 80; refine (PL.out _).mono ?_; rintro e w6 ⟨rfl, hy⟩)); go_wp2_with fail; (refine hK.out _ _ (by first | assumption | exact Ext.trans (by assumption) hy | exact Res.ext (by assumption) hy | exact ResB.ext (by assumption) hy | exact ResC.ext (by assumption) hy | (go_split_ands; (repeat' apply And.intro) <;> exact Ext.cellOf hy (by assumption))) (fun hHeld => ?_)); clear hK K; (try simp only [Act.put, Ord.a, Ord.b, Ord.c]))
    (refine wpAnyH_ready (rs := [9]) (by kernel_rfl) (by simp) ?_; refine AllReadyH.cons rfl (fun K hK => ?_) AllReadyH.nil; go_simp; (first | (go_at_call 82; refine (PA.out _ (HT.out.ext (X3.out.trans (by first | assumption | exact (Ext.refl _).drew)))).mono ?_; rintro e w4 ⟨rfl, hy⟩) | (go_at_call 81; refine (PV.out _).mono ?_; rintro e w5 ⟨rfl, hy⟩) | (go_at_call 80; refine (PL.out _).mono ?_; rintro e w6 ⟨rfl, hy⟩)); go_wp2_with fail; (refine hK.out _ _ (by first | assumption | exact Ext.trans (by assumption) hy | exact Res.ext (by assumption) hy | exact ResB.ext (by assumption) hy | exact ResC.ext (by assumption) hy | (go_split_ands; (repeat' apply And.intro) <;> exact Ext.cellOf hy (by assumption))) (fun hHeld => ?_)); clear hK K; (try simp only [Act.put, Ord.a, Ord.b, Ord.c]))
    (refine wpAnyH_ready (rs := [10]) (by kernel_rfl) (by simp) ?_; refine AllReadyH.cons rfl (fun K hK => ?_) AllReadyH.nil; go_simp; (first | (go_at_call 82; refine (PA.out _ (HT.out.ext (X3.out.trans (by first | assumption | exact (Ext.refl _).drew)))).mono ?_; rintro e w4 ⟨rfl, hy⟩) | (go_at_call 81; refine (PV.out _).mono ?_; rintro e w5 ⟨rfl, hy⟩) | (go_at_call 80; refine (PL.out _).mono ?_; rintro e w6 ⟨rfl, hy⟩)); go_wp2_with fail; (refine hK.out _ _ (by first | assumption | exact Ext.trans (by assumption) hy | exact Res.ext (by assumption) hy | exact ResB.ext (by assumption) hy | exact ResC.ext (by assumption) hy | (go_split_ands; (repeat' apply And.intro) <;> exact Ext.cellOf hy (by assumption))) (fun hHeld => ?_)); clear hK K; (try simp only [Act.put, Ord.a, Ord.b, Ord.c]))
    refine Ord.K 11 8 ?_
    refine Ord.K 12 9 ?_
    refine wpAnyH_done (by kernel_rfl) ?_ _
    go_wp2
    go_ret2
    exact ⟨ret_int2 H.out.2.2 H.out.1, HW.out.trans (X3.out.trans hHeld)⟩
def lmC (l k : L4) (ms : List M5) (fs : List F3) (n t h : Int) : Int := if zaC l k ms fs n t = 0 then (if 1 ≤ h ∧ h ≤ 1000 then 0 else 2) else zaC l k ms fs n t
def lmV (l k : L4) (ms : List M5) (fs : List F3) (n t h : Int) : Int := if lmC l k ms fs n t h = 0 then dmV l k ms fs n t / h else 0
theorem lm_bad {l k : L4} {ms : List M5} {fs : List F3} {n t h : Int} (g : zaC l k ms fs n t ≠ 0) : lmC l k ms fs n t h = zaC l k ms fs n t ∧ lmV l k ms fs n t h = 0 := by
  have e : lmC l k ms fs n t h = zaC l k ms fs n t := if_neg g
  exact ⟨e, by unfold lmV; rw [if_neg (by rw [e]; exact g)]⟩
theorem lm_out {l k : L4} {ms : List M5} {fs : List F3} {n t h : Int} (g : zaC l k ms fs n t = 0) (q : ¬ (1 ≤ h ∧ h ≤ 1000)) : lmC l k ms fs n t h = 2 ∧ lmV l k ms fs n t h = 0 := by
  have e : lmC l k ms fs n t h = 2 := by unfold lmC; rw [if_pos g, if_neg q]
  exact ⟨e, by unfold lmV; rw [if_neg (by rw [e]; decide)]⟩
theorem lm_yes {l k : L4} {ms : List M5} {fs : List F3} {n t h : Int} (g : zaC l k ms fs n t = 0) (q : 1 ≤ h ∧ h ≤ 1000) : lmC l k ms fs n t h = 0 ∧ lmV l k ms fs n t h = dmV l k ms fs n t / h := by
  have e : lmC l k ms fs n t h = 0 := by unfold lmC; rw [if_pos g, if_pos q]
  exact ⟨e, by unfold lmV; rw [if_pos e]⟩
theorem za_zero {l k : L4} {ms : List M5} {fs : List F3} {n t : Int} (h : zaC l k ms fs n t = 0) : mfC l k ms (trB fs) n = 0 ∧ lastB fs t = true := by
  by_cases g : mfC l k ms (trB fs) n = 0
  · cases hl : lastB fs t
    · rw [(za_out g hl).1] at h; cases h
    · exact ⟨g, rfl⟩
  · rw [(za_bad g).1] at h; exact absurd h g
theorem dm_bd (l k : L4) (ms : List M5) (fs : List F3) (n t : Int) : 0 ≤ dmV l k ms fs n t ∧ dmV l k ms fs n t ≤ 2828428 := by
  by_cases h : zaC l k ms fs n t = 0
  · obtain ⟨g, hl⟩ := za_zero h
    obtain ⟨hq, hv, hn⟩ := mf_zero g
    have hm := cr_mk hq (show n.toNat < ms.length by omega)
    obtain ⟨⟨mx, my⟩, _⟩ := mk_yes hm
    obtain ⟨d0, d1⟩ := pk_Co hv hl
    unfold dmV; rw [if_pos h]
    obtain ⟨b0, b1⟩ := sq_bd d0 d1 mx my
    exact Wid.rt_bd b0 b1
  · unfold dmV; rw [if_neg h]; omega
set_option maxRecDepth 100000 in
set_option maxHeartbeats 8000000 in
theorem lengthsToMark_impl (l k : L4) (a : Option Addr) (cap : Nat) (ms : List M5) (n : Int) (at_ : Option Addr) (ct : Nat) (fs : List F3) (t h : Int) (w : World) (hf : Mks w a ms) (ht : Fxs w at_ fs) (hcap : fs.length ≤ ct) :
    Calls Tryz.prog 45 #[CV l k (.slice a ms.length cap), .int .i64 n, Tr (.slice at_ fs.length ct), .int .i64 t, .int .i64 h] w fun e w' => e = .returned (.tuple #[.int .i64 (lmV l k ms fs n t h), .int .i64 (lmC l k ms fs n t h)]) ∧ Ext w w' := by
  obtain ⟨W0, hW0⟩ : ∃ W0, W0 = (w.alloc (.cells (cellsC l k (.slice a ms.length cap)).toArray 30)).alloc (.cells #[.slice at_ fs.length ct] 33) := ⟨_, rfl⟩
  have HW := Lib.hid (show Ext w W0 from hW0 ▸ ((Ext.refl w).alloc _).alloc _)
  have BB := Lib.hid (show Box W0 w.heap.size (cellsC l k (.slice a ms.length cap)) from hW0 ▸ (Box.new rfl).alloc _)
  have ctt : W0.cell? ⟨w.heap.size + 1, 0, none⟩ = some (.slice at_ fs.length ct) := hW0 ▸ boxed 0 rfl (by simp)
  have CT := Lib.hid ctt
  have HF := Lib.hid (hf.ext HW.out)
  have HT := Lib.hid (ht.ext HW.out)
  clear hf ht ctt
  have KD := Lib.hid (distanceToMark_impl l k a cap ms n at_ ct fs t W0 HF.out HT.out hcap)
  by_cases g : zaC l k ms fs n t = 0
  rotate_left
  · have HY := Lib.hid (lm_bad (h := h) g)
    have g1 : (zaC l k ms fs n t != 0) = true := by simp [g]
    have g2 : (zaC l k ms fs n t == 0) = false := beq_eq_false_iff_ne.2 g
    obtain ⟨C, hC⟩ : ∃ C, C = zaC l k ms fs n t := ⟨_, rfl⟩
    have HC := Lib.hid hC
    rw [← hC] at KD g1 g2
    clear g hC
    go_enter Tryz.func45, Tryz.ntmps45
    go_wp2_with fail
    rw [← hW0]
    clear hW0
    refine KD.out.mono ?_
    rintro e w1 ⟨rfl, hx⟩
    go_wp2
    go_ret2
    exact ⟨ret_int2 HY.out.2 (HY.out.1.trans HC.out.symm), HW.out.trans hx⟩
  obtain ⟨b0, b1⟩ := dm_bd l k ms fs n t
  have HO := Lib.hid (fun q => lm_out (h := h) g q)
  have HI := Lib.hid (fun q => lm_yes (h := h) g q)
  rw [g] at KD
  obtain ⟨D, hD⟩ : ∃ D, D = dmV l k ms fs n t := ⟨_, rfl⟩
  rw [← hD] at KD HI b0 b1
  clear hD g
  cases hn : inB h 1 1000
  · have q := not_inB hn
    have H := Lib.hid (HO.out (by omega))
    clear q
    go_enter Tryz.func45, Tryz.ntmps45
    go_wp2_with fail
    rw [← hW0]
    clear hW0
    refine KD.out.mono ?_
    rintro e w1 ⟨rfl, hx⟩
    go_wp2_with fail
    refine (isHullLength_any _ _).mono ?_
    rintro e w2 ⟨rfl, rfl⟩
    go_wp2
    go_ret2
    exact ⟨ret_int2 H.out.2 H.out.1, HW.out.trans hx⟩
  · obtain ⟨h3, h4⟩ := of_inB hn
    have H := Lib.hid (HI.out (by omega))
    obtain ⟨e1, e2⟩ := div_bd b0 h3
    go_enter Tryz.func45, Tryz.ntmps45
    go_wp2_with fail
    rw [← hW0]
    clear hW0
    refine KD.out.mono ?_
    rintro e w1 ⟨rfl, hx⟩
    go_wp2_with fail
    refine (isHullLength_any _ _).mono ?_
    rintro e w2 ⟨rfl, rfl⟩
    go_wp2
    go_ret2
    exact ⟨ret_int2 H.out.2 H.out.1, HW.out.trans hx⟩
set_option maxRecDepth 100000 in
set_option maxHeartbeats 8000000 in
theorem lengthsToMark_spec (l k : L4) (a : Option Addr) (cap : Nat) (ms : List M5) (n : Int) (at_ : Option Addr) (ct : Nat) (fs : List F3) (t h : Int) (w : World) (hf : Mks w a ms) (ht : Fxs w at_ fs) :
    Calls Tryz.prog 44 #[CV l k (.slice a ms.length cap), .int .i64 n, Tr (.slice at_ fs.length ct), .int .i64 t, .int .i64 h] w fun e w' => e = .returned (.tuple #[.int .i64 (lmV l k ms fs n t h), .int .i64 (lmC l k ms fs n t h)]) ∧ Ext w w' := by
  obtain ⟨W0, hW0⟩ : ∃ W0, W0 = (w.alloc (.cells (cellsC l k (.slice a ms.length cap)).toArray 30)).alloc (.cells #[.slice at_ fs.length ct] 33) := ⟨_, rfl⟩
  have HW := Lib.hid (show Ext w W0 from hW0 ▸ ((Ext.refl w).alloc _).alloc _)
  have BB := Lib.hid (show Box W0 w.heap.size (cellsC l k (.slice a ms.length cap)) from hW0 ▸ (Box.new rfl).alloc _)
  have ctt : W0.cell? ⟨w.heap.size + 1, 0, none⟩ = some (.slice at_ fs.length ct) := hW0 ▸ boxed 0 rfl (by simp)
  have CT := Lib.hid ctt
  have HF := Lib.hid (hf.ext HW.out)
  have HT := Lib.hid (ht.ext HW.out)
  clear hf ht ctt
  have KC := Lib.hid (l07Code_spec l k a cap ms n at_ ct fs W0 HF.out HT.out)
  by_cases c : mfC l k ms (trB fs) n = 0
  rotate_left
  · have HZ := Lib.hid (za_bad (t := t) c)
    have HY := Lib.hid (lm_bad (h := h) (t := t) (by rw [HZ.out.1]; exact c))
    have g1 : (mfC l k ms (trB fs) n != 0) = true := by simp [c]
    have g2 : (mfC l k ms (trB fs) n == 0) = false := beq_eq_false_iff_ne.2 c
    obtain ⟨C, hC⟩ : ∃ C, C = mfC l k ms (trB fs) n := ⟨_, rfl⟩
    have HC := Lib.hid hC
    rw [← hC] at KC g1 g2
    clear c hC
    go_enter Tryz.func44, Tryz.ntmps44
    go_wp2_with fail
    rw [← hW0]
    clear hW0
    refine KC.out.mono ?_
    rintro e w1 ⟨rfl, hx⟩
    go_wp2
    go_ret2
    exact ⟨ret_int2 HY.out.2 (HY.out.1.trans (HZ.out.1.trans HC.out.symm)), HW.out.trans hx⟩
  have KD := Lib.hid (fun w' h1 h2 => distanceToMark_spec l k a cap ms n at_ ct fs t w' h1 h2)
  have zc : zaC l k ms fs n t = if lastB fs t = true then 0 else 2 := if_pos c
  rw [c] at KC
  clear c
  by_cases hh : 1 ≤ h ∧ h ≤ 1000
  rotate_left
  · have hin := inB_no hh
    have H := Lib.hid (show lmC l k ms fs n t h = 2 ∧ lmV l k ms fs n t h = 0 by
      by_cases g : zaC l k ms fs n t = 0
      · exact lm_out g hh
      · have := lm_bad (h := h) g
        cases hl : lastB fs t
        · rw [hl] at zc; rw [this.1, this.2, zc]; exact ⟨rfl, rfl⟩
        · rw [hl] at zc; exact absurd zc g)
    clear hh zc
    go_enter Tryz.func44, Tryz.ntmps44
    go_wp2_with fail
    rw [← hW0]
    clear hW0
    refine KC.out.mono ?_
    rintro e w1 ⟨rfl, hx⟩
    go_wp2_with fail
    refine (in_any _ _ _ _).mono ?_
    rw [hin]
    rintro e w2 ⟨rfl, rfl⟩
    go_wp2
    go_ret2
    exact ⟨ret_int2 H.out.2 H.out.1, HW.out.trans hx⟩
  have hin := inB_yes hh.1 hh.2
  by_cases g : zaC l k ms fs n t = 0
  · obtain ⟨b0, b1⟩ := dm_bd l k ms fs n t
    have H := Lib.hid (lm_yes (h := h) g hh)
    rw [g] at KD
    obtain ⟨D, hD⟩ : ∃ D, D = dmV l k ms fs n t := ⟨_, rfl⟩
    rw [← hD] at KD H b0 b1
    obtain ⟨h3, h4⟩ := hh
    obtain ⟨e1, e2⟩ := div_bd b0 h3
    clear hD g zc
    go_enter Tryz.func44, Tryz.ntmps44
    go_wp2_with fail
    rw [← hW0]
    clear hW0
    refine KC.out.mono ?_
    rintro e w1 ⟨rfl, hx⟩
    go_wp2_with fail
    refine (in_any _ _ _ _).mono ?_
    rw [hin]
    rintro e w2 ⟨rfl, rfl⟩
    obtain ⟨⟨p0, p1, p2, p3, p4, p5, p6, p7, p8⟩, _⟩ := Box.nine (BB.out.ext hx)
    have c9 := hx.cellOf CT.out
    go_wp2_with fail
    refine (KD.out _ (HF.out.ext hx) (HT.out.ext hx)).mono ?_
    rintro e w3 ⟨rfl, hy⟩
    go_wp2
    go_ret2
    exact ⟨ret_int2 H.out.2 H.out.1, HW.out.trans (hx.trans hy)⟩
  · have HY := Lib.hid (lm_bad (h := h) g)
    have g1 : (zaC l k ms fs n t != 0) = true := by simp [g]
    have g2 : (zaC l k ms fs n t == 0) = false := beq_eq_false_iff_ne.2 g
    obtain ⟨C, hC⟩ : ∃ C, C = zaC l k ms fs n t := ⟨_, rfl⟩
    have HC := Lib.hid hC
    rw [← hC] at KD g1 g2
    clear g hC zc hh
    go_enter Tryz.func44, Tryz.ntmps44
    go_wp2_with fail
    rw [← hW0]
    clear hW0
    refine KC.out.mono ?_
    rintro e w1 ⟨rfl, hx⟩
    go_wp2_with fail
    refine (in_any _ _ _ _).mono ?_
    rw [hin]
    rintro e w2 ⟨rfl, rfl⟩
    obtain ⟨⟨p0, p1, p2, p3, p4, p5, p6, p7, p8⟩, _⟩ := Box.nine (BB.out.ext hx)
    have c9 := hx.cellOf CT.out
    go_wp2_with fail
    refine (KD.out _ (HF.out.ext hx) (HT.out.ext hx)).mono ?_
    rintro e w3 ⟨rfl, hy⟩
    go_wp2
    go_ret2
    exact ⟨ret_int2 HY.out.2 (HY.out.1.trans HC.out.symm), HW.out.trans (hx.trans hy)⟩
end Go.Proofs.YtpdnefodbichkaaGreat.Crs
