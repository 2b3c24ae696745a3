import Derived.Test.YtplbahdomjeekaaGreatZon5
import Derived.Test.YtplbahdomjeekaaGreatSid
namespace Go.Proofs.YtplbahdomjeekaaGreat.Crs
open Go.ChangeShapes Go.WideShapes Go.ChangeAt Go.RowKit Go.PlainAid
open Go.Proofs.YtplbahdomjeekaaGreat.Num Go.Proofs.YtplbahdomjeekaaGreat.Kit Go.Proofs.YtplbahdomjeekaaGreat.Pts Go.Proofs.YtplbahdomjeekaaGreat.Seg Go.Proofs.YtplbahdomjeekaaGreat.Div Go.Proofs.YtplbahdomjeekaaGreat.Root Go.Proofs.YtplbahdomjeekaaGreat.Rt Go.Proofs.YtplbahdomjeekaaGreat.Gcd
open Go.Proofs.YtplbahdomjeekaaGreat.Trk (F3 Fxs Tr trB fx lastB legOf pkX pkY pk_Co)
open Go.Proofs.YtplbahdomjeekaaGreat.Win (wiB)
set_option linter.unusedVariables false
set_option linter.unusedSimpArgs false
def zaC (l k : L4) (ms : List M5) (fs : List F3) (n t : Int) : Int := if mfC l k ms (trB fs) n = 0 then (if lastB fs t = true then 0 else 2) else mfC l k ms (trB fs) n
def zaV (l k : L4) (ms : List M5) (fs : List F3) (n t : Int) : Bool := if zaC l k ms fs n t = 0 then izB (mk ms n.toNat) (pkX fs t (legOf fs t)) (pkY fs t (legOf fs t)) else false
def dmV (l k : L4) (ms : List M5) (fs : List F3) (n t : Int) : Int := if zaC l k ms fs n t = 0 then rt (sqD (pkX fs t (legOf fs t)) (pkY fs t (legOf fs t)) (mk ms n.toNat).x (mk ms n.toNat).y) else 0
theorem za_bad {l k : L4} {ms : List M5} {fs : List F3} {n t : Int} (g : mfC l k ms (trB fs) n ≠ 0) : zaC l k ms fs n t = mfC l k ms (trB fs) n ∧ zaV l k ms fs n t = false ∧ dmV l k ms fs n t = 0 := by
  have h : zaC l k ms fs n t = mfC l k ms (trB fs) n := if_neg g
  refine ⟨h, ?_, ?_⟩
  · unfold zaV; rw [if_neg (by rw [h]; exact g)]
  · unfold dmV; rw [if_neg (by rw [h]; exact g)]
theorem za_out {l k : L4} {ms : List M5} {fs : List F3} {n t : Int} (g : mfC l k ms (trB fs) n = 0) (h : lastB fs t = false) : zaC l k ms fs n t = 2 ∧ zaV l k ms fs n t = false ∧ dmV l k ms fs n t = 0 := by
  have h : zaC l k ms fs n t = 2 := by unfold zaC; rw [if_pos g, h]; rfl
  refine ⟨h, ?_, ?_⟩
  · unfold zaV; rw [if_neg (by rw [h]; decide)]
  · unfold dmV; rw [if_neg (by rw [h]; decide)]
theorem za_yes {l k : L4} {ms : List M5} {fs : List F3} {i : Nat} {t : Int} (g : mfC l k ms (trB fs) i = 0) (h : lastB fs t = true) : zaC l k ms fs i t = 0 ∧ zaV l k ms fs i t = izB (mk ms i) (pkX fs t (legOf fs t)) (pkY fs t (legOf fs t)) ∧ dmV l k ms fs i t = rt (sqD (pkX fs t (legOf fs t)) (pkY fs t (legOf fs t)) (mk ms i).x (mk ms i).y) := by
  have h : zaC l k ms fs i t = 0 := by unfold zaC; rw [if_pos g, h]; rfl
  refine ⟨h, ?_, ?_⟩
  · unfold zaV; rw [if_pos h]; simp
  · unfold dmV; rw [if_pos h]; simp
theorem ret_bi {a b : Bool} {c d : Int} (h : b = a) (g : d = c) : Ending.returned (.tuple #[.bool a, .int .i64 c]) = .returned (.tuple #[.bool b, .int .i64 d]) := by rw [h, g]
set_option maxRecDepth 100000 in
set_option maxHeartbeats 8000000 in
theorem inZoneAt_impl (l k : L4) (a : Option Addr) (cap : Nat) (ms : List M5) (n : Int) (at_ : Option Addr) (ct : Nat) (fs : List F3) (t : Int) (w : World) (hf : Mks w a ms) (ht : Fxs w at_ fs) (hcap : fs.length ≤ ct) :
    Calls Tryz.prog 17 #[CV l k (.slice a ms.length cap), .int .i64 n, Tr (.slice at_ fs.length ct), .int .i64 t] w fun e w' => e = .returned (.tuple #[.bool (zaV l k ms fs n t), .int .i64 (zaC l k ms fs n t)]) ∧ Ext w w' := by
  obtain ⟨W0, hW0⟩ : ∃ W0, W0 = (w.alloc (.cells (cellsC l k (.slice a ms.length cap)).toArray 30)).alloc (.cells #[.slice at_ fs.length ct] 33) := ⟨_, rfl⟩
  have HW := Lib.hid (show Ext w W0 from hW0 ▸ ((Ext.refl w).alloc _).alloc _)
  have BB := Lib.hid (show Box W0 w.heap.size (cellsC l k (.slice a ms.length cap)) from hW0 ▸ (Box.new rfl).alloc _)
  have ctt : W0.cell? ⟨w.heap.size + 1, 0, none⟩ = some (.slice at_ fs.length ct) := hW0 ▸ boxed 0 rfl (by simp)
  have CT := Lib.hid ctt
  have HF := Lib.hid (hf.ext HW.out)
  have HT := Lib.hid (ht.ext HW.out)
  have zW : W0.heap.size = w.heap.size + 1 + 1 := by rw [hW0]; simp
  clear hf ht ctt
  obtain ⟨W1, hW1⟩ : ∃ W1, W1 = W0.alloc (.cells #[.slice at_ fs.length ct] 33) := ⟨_, rfl⟩
  have h1 : Ext W0 W1 := hW1 ▸ (Ext.refl W0).alloc _
  have TK := Lib.hid (Tks.one (w := W1) (b := w.heap.size + 1 + 1) (t := ⟨at_, ct, fs⟩) (hW1 ▸ boxed 0 rfl zW) (HT.out.ext h1))
  have KL := Lib.hid (markFor_any l k a cap ms n (some ⟨w.heap.size + 1 + 1, 0, none⟩) 1 [⟨at_, ct, fs⟩] W1 (HF.out.ext h1) TK.out)
  rw [tsB_one] at KL
  have X1 := Lib.hid h1
  clear h1 zW
  by_cases g : mfC l k ms (trB fs) n = 0
  rotate_left
  · have HY := Lib.hid (za_bad (t := t) g)
    have g1 : (mfC l k ms (trB fs) n != 0) = true := by simp [g]
    have g2 : (mfC l k ms (trB fs) n == 0) = false := beq_eq_false_iff_ne.2 g
    obtain ⟨C, hC⟩ : ∃ C, C = mfC l k ms (trB fs) n := ⟨_, rfl⟩
    have HC := Lib.hid hC
    rw [← hC] at KL g1 g2
    clear g hC
    go_enter Tryz.func17, Tryz.ntmps17
    go_wp2_with fail
    rw [← hW0, ← hW1]
    clear hW0 hW1
    refine KL.out.mono ?_
    rintro e w1 ⟨rfl, hx⟩
    go_wp2
    go_ret2
    exact ⟨ret_bi HY.out.2.1 (HY.out.1.trans HC.out.symm), HW.out.trans (X1.out.trans (hx.alloc _))⟩
  obtain ⟨hq, hv, hn⟩ := mf_zero g
  obtain ⟨i, rfl⟩ : ∃ i : Nat, n = i := ⟨n.toNat, by omega⟩
  have hi : i < ms.length := by omega
  have hm := cr_mk hq hi
  have h2 := (Trk.trB_yes hv).1.1
  rw [mf_mk g, g] at KL
  have LS := Lib.hid (fun w' h => Trk.lastsAt_any at_ ct fs t w' h (by omega))
  cases hl : lastB fs t
  · have H := Lib.hid (za_out (t := t) g hl)
    rw [hl] at LS
    clear g hq hv hn hl hm
    obtain ⟨m, hm⟩ : ∃ m, m = mk ms i := ⟨_, rfl⟩
    rw [← hm] at KL
    clear hm
    go_enter Tryz.func17, Tryz.ntmps17
    go_wp2_with fail
    rw [← hW0, ← hW1]
    clear hW0 hW1
    refine KL.out.mono ?_
    rintro e w1 ⟨rfl, hx⟩
    have X2 := Lib.hid (X1.out.trans hx)
    have c9 : ∀ A, (w1.alloc A).cell? ⟨w.heap.size + 1, 0, none⟩ = some (.slice at_ fs.length ct) := fun A => ((Ext.refl w1).alloc A).cellOf (X2.out.cellOf CT.out)
    go_wp2_with fail
    refine (LS.out _ (HT.out.ext (X2.out.trans ((Ext.refl w1).alloc _)))).mono ?_
    rintro e w2 ⟨rfl, hy⟩
    go_wp2
    go_ret2
    exact ⟨ret_bi H.out.2.1 H.out.1, HW.out.trans (X2.out.trans (((Ext.refl w1).alloc _).trans hy))⟩
  · have H := Lib.hid (za_yes (t := t) g hl)
    obtain ⟨d0, d1⟩ := pk_Co hv hl
    have PA := Lib.hid (fun w' h => Trk.positionAt_any at_ ct fs t w' h hcap hv hl)
    rw [hl] at LS
    clear g hq hv hn hl
    obtain ⟨m, hmm⟩ : ∃ m, m = mk ms i := ⟨_, rfl⟩
    rw [← hmm] at KL H hm
    clear hmm
    obtain ⟨P, hP⟩ : ∃ P, P = pkX fs t (legOf fs t) := ⟨_, rfl⟩
    obtain ⟨Q, hQ⟩ : ∃ Q, Q = pkY fs t (legOf fs t) := ⟨_, rfl⟩
    rw [← hP, ← hQ] at PA H
    rw [← hP] at d0
    rw [← hQ] at d1
    clear hP hQ
    have KZ := Lib.hid (fun w' => hasInZone_any m P Q w' d0 d1 hm)
    clear d0 d1 hm
    go_enter Tryz.func17, Tryz.ntmps17
    go_wp2_with fail
    rw [← hW0, ← hW1]
    clear hW0 hW1
    refine KL.out.mono ?_
    rintro e w1 ⟨rfl, hx⟩
    have X2 := Lib.hid (X1.out.trans hx)
    obtain ⟨W2, hW2⟩ : ∃ W2, W2 = w1.alloc (.cells #[.string m.n, .int .i64 m.x, .int .i64 m.y, .int .i64 m.s, .int .i64 m.z] 45) := ⟨_, rfl⟩
    have h2 : Ext w1 W2 := hW2 ▸ (Ext.refl w1).alloc _
    have BM := Lib.hid (show Box W2 w1.heap.size [.string m.n, .int .i64 m.x, .int .i64 m.y, .int .i64 m.s, .int .i64 m.z] from hW2 ▸ Box.new rfl)
    have c9 : ∀ A, (w1.alloc A).cell? ⟨w.heap.size + 1, 0, none⟩ = some (.slice at_ fs.length ct) := fun A => ((Ext.refl w1).alloc A).cellOf (X2.out.cellOf CT.out)
    go_wp2_with fail
    rw [← hW2]
    clear hW2
    have c8 := h2.cellOf (X2.out.cellOf CT.out)
    replace X2 := Lib.hid (X2.out.trans h2)
    refine (LS.out _ (HT.out.ext X2.out)).mono ?_
    rintro e w3 ⟨rfl, hy⟩
    have X3 := Lib.hid (X2.out.trans hy)
    have B3 := Lib.hid (BM.out.ext hy)
    have f9 : ∀ w', Ext w3 w' → w'.cell? ⟨w.heap.size + 1, 0, none⟩ = some (.slice at_ fs.length ct) := fun w' h => h.cellOf (hy.cellOf c8)
    have f0 : ∀ w', Ext w3 w' → w'.cell? ⟨w1.heap.size, 0, none⟩ = some (.string m.n) := fun w' h => h.cellOf (B3.out 0 _ rfl).1
    have f1 : ∀ w', Ext w3 w' → w'.cell? ⟨w1.heap.size, 1, none⟩ = some (.int .i64 m.x) := fun w' h => h.cellOf (B3.out 1 _ rfl).1
    have f2 : ∀ w', Ext w3 w' → w'.cell? ⟨w1.heap.size, 2, none⟩ = some (.int .i64 m.y) := fun w' h => h.cellOf (B3.out 2 _ rfl).1
    have f3 : ∀ w', Ext w3 w' → w'.cell? ⟨w1.heap.size, 3, none⟩ = some (.int .i64 m.s) := fun w' h => h.cellOf (B3.out 3 _ rfl).1
    have f4 : ∀ w', Ext w3 w' → w'.cell? ⟨w1.heap.size, 4, none⟩ = some (.int .i64 m.z) := fun w' h => h.cellOf (B3.out 4 _ rfl).1
    clear hx hy h2 c9 c8
    go_upto_region 6 with fail
    refine wp_region_held_drew (S := (fun w' => Ext w3 w')) (by kernel_rfl) (by (try dsimp only); first | go_keep | exact (Ext.refl _).drew | exact Res.new2.drew | exact Res.new4.drew | exact ResB.drew (by assumption) | exact ResC.drew (by assumption) | assumption | exact Ext.drew (by assumption) | exact Res.drew (by assumption)) (fun hHeld => ?_)
    (refine Ord.k 0 27 (v := ?_) ?_ ?_; rotate_left; (intro w h; (try dsimp only at h); go_simp; (try with_reducible rfl)); (try simp only [Act.put, Ord.a, Ord.b, Ord.c]))
    (refine Ord.k 1 28 (v := ?_) ?_ ?_; rotate_left; (intro w h; (try dsimp only at h); go_simp; (try with_reducible rfl)); (try simp only [Act.put, Ord.a, Ord.b, Ord.c]))
    (refine Ord.k 2 29 (v := ?_) ?_ ?_; rotate_left; (intro w h; (try dsimp only at h); go_simp; (try with_reducible rfl)); (try simp only [Act.put, Ord.a, Ord.b, Ord.c]))
    (refine wpAnyH_ready (rs := [3]) (by kernel_rfl) (by simp) ?_; refine AllReadyH.cons rfl (fun K hK => ?_) AllReadyH.nil; go_simp; (first | (go_at_call 72; refine (PA.out _ (HT.out.ext (X3.out.trans (by first | assumption | exact (Ext.refl _).drew)))).mono ?_; rintro e w4 ⟨rfl, hy⟩) | (go_at_call 71; refine (KZ.out _).mono ?_; rintro e w5 ⟨rfl, hy⟩)); go_wp2_with fail; (refine hK.out _ _ (by first | assumption | exact Ext.trans (by assumption) hy | exact Res.ext (by assumption) hy | exact ResB.ext (by assumption) hy | exact ResC.ext (by assumption) hy | (go_split_ands; (repeat' apply And.intro) <;> exact Ext.cellOf hy (by assumption))) (fun hHeld => ?_)); clear hK K; (try simp only [Act.put, Ord.a, Ord.b, Ord.c]))
    (refine wpAnyH_ready (rs := [4]) (by kernel_rfl) (by simp) ?_; refine AllReadyH.cons rfl (fun K hK => ?_) AllReadyH.nil; go_simp; (first | (go_at_call 72; refine (PA.out _ (HT.out.ext (X3.out.trans (by first | assumption | exact (Ext.refl _).drew)))).mono ?_; rintro e w4 ⟨rfl, hy⟩) | (go_at_call 71; refine (KZ.out _).mono ?_; rintro e w5 ⟨rfl, hy⟩)); go_wp2_with fail; (refine hK.out _ _ (by first | assumption | exact Ext.trans (by assumption) hy | exact Res.ext (by assumption) hy | exact ResB.ext (by assumption) hy | exact ResC.ext (by assumption) hy | (go_split_ands; (repeat' apply And.intro) <;> exact Ext.cellOf hy (by assumption))) (fun hHeld => ?_)); clear hK K; (try simp only [Act.put, Ord.a, Ord.b, Ord.c]))
    (refine Ord.k 5 8 (v := ?_) ?_ ?_; rotate_left; (intro w h; (try dsimp only at h); go_simp; (try with_reducible rfl)); (try simp only [Act.put, Ord.a, Ord.b, Ord.c]))
    (refine Ord.k 6 9 (v := ?_) ?_ ?_; rotate_left; (intro w h; (try dsimp only at h); go_simp; (try with_reducible rfl)); (try simp only [Act.put, Ord.a, Ord.b, Ord.c]))
    refine wpAnyH_done (by kernel_rfl) ?_ _
    go_wp2
    go_ret2
    exact ⟨ret_bi H.out.2.1 H.out.1, HW.out.trans (X3.out.trans hHeld)⟩
set_option maxRecDepth 100000 in
set_option maxHeartbeats 8000000 in
theorem inZoneAt_spec (l k : L4) (a : Option Addr) (cap : Nat) (ms : List M5) (n : Int) (at_ : Option Addr) (ct : Nat) (fs : List F3) (t : Int) (w : World) (hf : Mks w a ms) (ht : Fxs w at_ fs) :
    Calls Tryz.prog 18 #[CV l k (.slice a ms.length cap), .int .i64 n, Tr (.slice at_ fs.length ct), .int .i64 t] w fun e w' => e = .returned (.tuple #[.bool (zaV l k ms fs n t), .int .i64 (zaC l k ms fs n t)]) ∧ Ext w w' := by
  obtain ⟨W0, hW0⟩ : ∃ W0, W0 = (w.alloc (.cells (cellsC l k (.slice a ms.length cap)).toArray 30)).alloc (.cells #[.slice at_ fs.length ct] 33) := ⟨_, rfl⟩
  have HW := Lib.hid (show Ext w W0 from hW0 ▸ ((Ext.refl w).alloc _).alloc _)
  have BB := Lib.hid (show Box W0 w.heap.size (cellsC l k (.slice a ms.length cap)) from hW0 ▸ (Box.new rfl).alloc _)
  have ctt : W0.cell? ⟨w.heap.size + 1, 0, none⟩ = some (.slice at_ fs.length ct) := hW0 ▸ boxed 0 rfl (by simp)
  have CT := Lib.hid ctt
  have HF := Lib.hid (hf.ext HW.out)
  have HT := Lib.hid (ht.ext HW.out)
  clear hf ht ctt
  have KL := Lib.hid (l07Code_spec l k a cap ms n at_ ct fs W0 HF.out HT.out)
  by_cases g : mfC l k ms (trB fs) n = 0
  rotate_left
  · have HY := Lib.hid (za_bad (t := t) g)
    have g1 : (mfC l k ms (trB fs) n != 0) = true := by simp [g]
    have g2 : (mfC l k ms (trB fs) n == 0) = false := beq_eq_false_iff_ne.2 g
    obtain ⟨C, hC⟩ : ∃ C, C = mfC l k ms (trB fs) n := ⟨_, rfl⟩
    have HC := Lib.hid hC
    rw [← hC] at KL g1 g2
    clear g hC
    go_enter Tryz.func18, Tryz.ntmps18
    go_wp2_with fail
    rw [← hW0]
    clear hW0
    refine KL.out.mono ?_
    rintro e w1 ⟨rfl, hx⟩
    go_wp2
    go_ret2
    exact ⟨ret_bi HY.out.2.1 (HY.out.1.trans HC.out.symm), HW.out.trans hx⟩
  obtain ⟨hq, hv, hn⟩ := mf_zero g
  obtain ⟨i, rfl⟩ : ∃ i : Nat, n = i := ⟨n.toNat, by omega⟩
  have hi : i < ms.length := by omega
  have hm := cr_mk hq hi
  have h2 := (Trk.trB_yes hv).1.1
  rw [g] at KL
  have LS := Lib.hid (fun w' h => Trk.lasts_spec at_ ct fs t w' h (by omega))
  cases hl : lastB fs t
  · have H := Lib.hid (za_out (t := t) g hl)
    rw [hl] at LS
    clear g hq hv hn hl hm
    go_enter Tryz.func18, Tryz.ntmps18
    go_wp2_with fail
    rw [← hW0]
    clear hW0
    refine KL.out.mono ?_
    rintro e w1 ⟨rfl, hx⟩
    have X2 := Lib.hid hx
    have c9 := X2.out.cellOf CT.out
    go_wp2_with fail
    refine (LS.out _ (HT.out.ext X2.out)).mono ?_
    rintro e w2 ⟨rfl, hy⟩
    go_wp2
    go_ret2
    exact ⟨ret_bi H.out.2.1 H.out.1, HW.out.trans (X2.out.trans hy)⟩
  · have H := Lib.hid (za_yes (t := t) g hl)
    obtain ⟨d0, d1⟩ := pk_Co hv hl
    have PA := Lib.hid (fun w' h => Trk.at_spec at_ ct fs t w' h hv hl)
    rw [hl] at LS
    obtain ⟨b, off, rfl, hb⟩ := HF.out.row (by omega)
    obtain ⟨k0, k1, k2, k3, k4⟩ := hb i hi
    clear g hq hv hn hl hb
    obtain ⟨m, hmm⟩ : ∃ m, m = mk ms i := ⟨_, rfl⟩
    rw [← hmm] at H hm k0 k1 k2 k3 k4
    clear hmm
    obtain ⟨P, hP⟩ : ∃ P, P = pkX fs t (legOf fs t) := ⟨_, rfl⟩
    obtain ⟨Q, hQ⟩ : ∃ Q, Q = pkY fs t (legOf fs t) := ⟨_, rfl⟩
    rw [← hP, ← hQ] at PA H
    rw [← hP] at d0
    rw [← hQ] at d1
    clear hP hQ
    obtain ⟨⟨mx, my⟩, _, z1, z2⟩ := mk_yes hm
    have PV := Lib.hid (fun w' => square_any P Q m.x m.y w' d0 d1 mx my)
    obtain ⟨b0, b1⟩ := sqs_bd (x := m.x - P) (y := m.y - Q) (by unfold Co at *; omega) (by unfold Co at *; omega)
    have HE : (m.x - P) * (m.x - P) + (m.y - Q) * (m.y - Q) = sqD P Q m.x m.y := rfl
    rw [HE] at b0 b1
    have PL := Lib.hid (fun w' => rootE (sqD P Q m.x m.y) w' b0 (by omega))
    have Z := zzS_bd z1 z2
    have HU := Lib.hid (show izB m P Q = decide (sqD P Q m.x m.y ≤ m.z * m.z) from rfl)
    obtain ⟨S, hS⟩ : ∃ S, S = sqD P Q m.x m.y := ⟨_, rfl⟩
    rw [← hS] at PV PL HU H
    rw [HU.out] at H
    have r0 : (0 : Int) ≤ (i : Int) := by omega
    have r1 : (i : Int) < (ms.length : Int) := by omega
    clear d0 d1 hm mx my b0 b1 HE z1 z2 hS
    go_enter Tryz.func18, Tryz.ntmps18
    go_wp2_with fail
    rw [← hW0]
    clear hW0
    refine KL.out.mono ?_
    rintro e w1 ⟨rfl, hx⟩
    have X2 := Lib.hid hx
    obtain ⟨⟨p0, p1, p2, p3, p4, p5, p6, p7, p8⟩, _⟩ := Box.nine (BB.out.ext X2.out)
    have c9 := X2.out.cellOf CT.out
    go_wp2_with fail
    refine (LS.out _ (HT.out.ext X2.out)).mono ?_
    rintro e w3 ⟨rfl, hy⟩
    have X3 := Lib.hid (X2.out.trans hy)
    clear p0 p1 p2 p3 p4 p5 p6 p7 p8 c9
    obtain ⟨⟨p0, p1, p2, p3, p4, p5, p6, p7, p8⟩, _⟩ := Box.nine (BB.out.ext X3.out)
    replace k0 := X3.out.cellOf k0
    replace k1 := X3.out.cellOf k1
    replace k2 := X3.out.cellOf k2
    replace k3 := X3.out.cellOf k3
    replace k4 := X3.out.cellOf k4
    have c9 := X3.out.cellOf CT.out
    clear hx hy
    obtain ⟨W4, hW4⟩ : ∃ W4, W4 = w3.alloc (.cells #[.string m.n, .int .i64 m.x, .int .i64 m.y, .int .i64 m.s, .int .i64 m.z] 45) := ⟨_, rfl⟩
    have h4 : Ext w3 W4 := hW4 ▸ (Ext.refl w3).alloc _
    have BM := Lib.hid (show Box W4 w3.heap.size [.string m.n, .int .i64 m.x, .int .i64 m.y, .int .i64 m.s, .int .i64 m.z] from hW4 ▸ Box.new rfl)
    go_upto_region 7 with fail
    rw [← hW4]
    clear hW4
    have f9 : ∀ w', Ext W4 w' → w'.cell? ⟨w.heap.size + 1, 0, none⟩ = some (.slice at_ fs.length ct) := fun w' h => h.cellOf (h4.cellOf c9)
    have f1 : ∀ w', Ext W4 w' → w'.cell? ⟨w3.heap.size, 1, none⟩ = some (.int .i64 m.x) := fun w' h => h.cellOf (BM.out 1 _ rfl).1
    have f2 : ∀ w', Ext W4 w' → w'.cell? ⟨w3.heap.size, 2, none⟩ = some (.int .i64 m.y) := fun w' h => h.cellOf (BM.out 2 _ rfl).1
    have f4 : ∀ w', Ext W4 w' → w'.cell? ⟨w3.heap.size, 4, none⟩ = some (.int .i64 m.z) := fun w' h => h.cellOf (BM.out 4 _ rfl).1
    have X4 := Lib.hid (X3.out.trans h4)
    clear h4 c9 k0 k1 k2 k3 k4 p0 p1 p2 p3 p4 p5 p6 p7 p8
    refine wp_region_held_drew (S := (fun w' => Ext W4 w')) (by kernel_rfl) (by (try dsimp only); first | go_keep | exact (Ext.refl _).drew | exact Res.new2.drew | exact Res.new4.drew | exact ResB.drew (by assumption) | exact ResC.drew (by assumption) | assumption | exact Ext.drew (by assumption) | exact Res.drew (by assumption)) (fun hHeld => ?_)
    (refine Ord.k 0 28 (v := ?_) ?_ ?_; rotate_left; (intro w h; (try dsimp only at h); go_simp; (try with_reducible rfl)); (try simp only [Act.put, Ord.a, Ord.b, Ord.c]))
    (refine Ord.k 1 29 (v := ?_) ?_ ?_; rotate_left; (intro w h; (try dsimp only at h); go_simp; (try with_reducible rfl)); (try simp only [Act.put, Ord.a, Ord.b, Ord.c]))
    (refine Ord.k 3 31 (v := ?_) ?_ ?_; rotate_left; (intro w h; (try dsimp only at h); go_simp; (try with_reducible rfl)); (try simp only [Act.put, Ord.a, Ord.b, Ord.c]))
    (refine Ord.k 4 32 (v := ?_) ?_ ?_; rotate_left; (intro w h; (try dsimp only at h); go_simp; (try with_reducible rfl)); (try simp only [Act.put, Ord.a, Ord.b, Ord.c]))
    (refine Ord.k 6 34 (v := ?_) ?_ ?_; rotate_left; (intro w h; (try dsimp only at h); go_simp; (try with_reducible rfl)); (try simp only [Act.put, Ord.a, Ord.b, Ord.c]))
    (refine Ord.k 7 35 (v := ?_) ?_ ?_; rotate_left; (intro w h; (try dsimp only at h); go_simp; (try with_reducible rfl)); (try simp only [Act.put, Ord.a, Ord.b, Ord.c]))
    (refine Ord.k 8 36 (v := ?_) ?_ ?_; rotate_left; (intro w h; (try dsimp only at h); go_simp; (try with_reducible rfl)); (try simp only [Act.put, Ord.a, Ord.b, Ord.c]))
    (refine Ord.k 9 37 (v := ?_) ?_ ?_; rotate_left; (intro w h; (try dsimp only at h); go_simp; (try with_reducible rfl)); (try simp only [Act.put, Ord.a, Ord.b, Ord.c]))
    (refine Ord.k 10 38 (v := ?_) ?_ ?_; rotate_left; (intro w h; (try dsimp only at h); go_simp; (try with_reducible rfl)); (try simp only [Act.put, Ord.a, Ord.b, Ord.c]))
    (refine wpAnyH_ready (rs := [2]) (by kernel_rfl) (by simp) ?_; refine AllReadyH.cons rfl (fun K hK => ?_) AllReadyH.nil; go_simp; (first | (go_at_call 76; refine (PA.out _ (HT.out.ext (X4.out.trans (by first | assumption | exact (Ext.refl _).drew)))).mono ?_; rintro e w4 ⟨rfl, hy⟩) | (go_at_call 75; refine (PV.out _).mono ?_; rintro e w5 ⟨rfl, hy⟩)); go_wp2_with fail; (refine hK.out _ _ (by first | assumption | exact Ext.trans (by assumption) hy | exact Res.ext (by assumption) hy | exact ResB.ext (by assumption) hy | exact ResC.ext (by assumption) hy | (go_split_ands; (repeat' apply And.intro) <;> exact Ext.cellOf hy (by assumption))) (fun hHeld => ?_)); clear hK K; (try simp only [Act.put, Ord.a, Ord.b, Ord.c]))
    (refine wpAnyH_ready (rs := [5]) (by kernel_rfl) (by simp) ?_; refine AllReadyH.cons rfl (fun K hK => ?_) AllReadyH.nil; go_simp; (first | (go_at_call 76; refine (PA.out _ (HT.out.ext (X4.out.trans (by first | assumption | exact (Ext.refl _).drew)))).mono ?_; rintro e w4 ⟨rfl, hy⟩) | (go_at_call 75; refine (PV.out _).mono ?_; rintro e w5 ⟨rfl, hy⟩)); go_wp2_with fail; (refine hK.out _ _ (by first | assumption | exact Ext.trans (by assumption) hy | exact Res.ext (by assumption) hy | exact ResB.ext (by assumption) hy | exact ResC.ext (by assumption) hy | (go_split_ands; (repeat' apply And.intro) <;> exact Ext.cellOf hy (by assumption))) (fun hHeld => ?_)); clear hK K; (try simp only [Act.put, Ord.a, Ord.b, Ord.c]))
    (refine Ord.k 11 39 (v := ?_) ?_ ?_; rotate_left; (intro w h; (try dsimp only at h); go_simp; (try with_reducible rfl)); (try simp only [Act.put, Ord.a, Ord.b, Ord.c]))
    (refine Ord.k 12 8 (v := ?_) ?_ ?_; rotate_left; (intro w h; (try dsimp only at h); go_simp; (try with_reducible rfl)); (try simp only [Act.put, Ord.a, Ord.b, Ord.c]))
    (refine Ord.k 13 9 (v := ?_) ?_ ?_; rotate_left; (intro w h; (try dsimp only at h); go_simp; (try with_reducible rfl)); (try simp only [Act.put, Ord.a, Ord.b, Ord.c]))
    refine wpAnyH_done (by kernel_rfl) ?_ _
    go_wp2
    go_ret2
    exact ⟨ret_bi H.out.2.1 H.out.1, HW.out.trans (X4.out.trans hHeld)⟩
set_option maxRecDepth 100000 in
set_option maxHeartbeats 8000000 in
theorem distanceToMark_impl (l k : L4) (a : Option Addr) (cap : Nat) (ms : List M5) (n : Int) (at_ : Option Addr) (ct : Nat) (fs : List F3) (t : Int) (w : World) (hf : Mks w a ms) (ht : Fxs w at_ fs) (hcap : fs.length ≤ ct) :
    Calls Tryz.prog 19 #[CV l k (.slice a ms.length cap), .int .i64 n, Tr (.slice at_ fs.length ct), .int .i64 t] w fun e w' => e = .returned (.tuple #[.int .i64 (dmV l k ms fs n t), .int .i64 (zaC l k ms fs n t)]) ∧ Ext w w' := by
  obtain ⟨W0, hW0⟩ : ∃ W0, W0 = (w.alloc (.cells (cellsC l k (.slice a ms.length cap)).toArray 30)).alloc (.cells #[.slice at_ fs.length ct] 33) := ⟨_, rfl⟩
  have HW := Lib.hid (show Ext w W0 from hW0 ▸ ((Ext.refl w).alloc _).alloc _)
  have BB := Lib.hid (show Box W0 w.heap.size (cellsC l k (.slice a ms.length cap)) from hW0 ▸ (Box.new rfl).alloc _)
  have ctt : W0.cell? ⟨w.heap.size + 1, 0, none⟩ = some (.slice at_ fs.length ct) := hW0 ▸ boxed 0 rfl (by simp)
  have CT := Lib.hid ctt
  have HF := Lib.hid (hf.ext HW.out)
  have HT := Lib.hid (ht.ext HW.out)
  have zW : W0.heap.size = w.heap.size + 1 + 1 := by rw [hW0]; simp
  clear hf ht ctt
  obtain ⟨W1, hW1⟩ : ∃ W1, W1 = W0.alloc (.cells #[.slice at_ fs.length ct] 33) := ⟨_, rfl⟩
  have h1 : Ext W0 W1 := hW1 ▸ (Ext.refl W0).alloc _
  have TK := Lib.hid (Tks.one (w := W1) (b := w.heap.size + 1 + 1) (t := ⟨at_, ct, fs⟩) (hW1 ▸ boxed 0 rfl zW) (HT.out.ext h1))
  have KL := Lib.hid (markFor_any l k a cap ms n (some ⟨w.heap.size + 1 + 1, 0, none⟩) 1 [⟨at_, ct, fs⟩] W1 (HF.out.ext h1) TK.out)
  rw [tsB_one] at KL
  have X1 := Lib.hid h1
  clear h1 zW
  by_cases g : mfC l k ms (trB fs) n = 0
  rotate_left
  · have HY := Lib.hid (za_bad (t := t) g)
    have g1 : (mfC l k ms (trB fs) n != 0) = true := by simp [g]
    have g2 : (mfC l k ms (trB fs) n == 0) = false := beq_eq_false_iff_ne.2 g
    obtain ⟨C, hC⟩ : ∃ C, C = mfC l k ms (trB fs) n := ⟨_, rfl⟩
    have HC := Lib.hid hC
    rw [← hC] at KL g1 g2
    clear g hC
    go_enter Tryz.func19, Tryz.ntmps19
    go_wp2_with fail
    rw [← hW0, ← hW1]
    clear hW0 hW1
    refine KL.out.mono ?_
    rintro e w1 ⟨rfl, hx⟩
    go_wp2
    go_ret2
    exact ⟨ret_int2 HY.out.2.2 (HY.out.1.trans HC.out.symm), HW.out.trans (X1.out.trans (hx.alloc _))⟩
  obtain ⟨hq, hv, hn⟩ := mf_zero g
  obtain ⟨i, rfl⟩ : ∃ i : Nat, n = i := ⟨n.toNat, by omega⟩
  have hi : i < ms.length := by omega
  have hm := cr_mk hq hi
  have h2 := (Trk.trB_yes hv).1.1
  rw [mf_mk g, g] at KL
  have LS := Lib.hid (fun w' h => Trk.lastsAt_any at_ ct fs t w' h (by omega))
  cases hl : lastB fs t
  · have H := Lib.hid (za_out (t := t) g hl)
    rw [hl] at LS
    clear g hq hv hn hl hm
    obtain ⟨m, hm⟩ : ∃ m, m = mk ms i := ⟨_, rfl⟩
    rw [← hm] at KL
    clear hm
    go_enter Tryz.func19, Tryz.ntmps19
    go_wp2_with fail
    rw [← hW0, ← hW1]
    clear hW0 hW1
    refine KL.out.mono ?_
    rintro e w1 ⟨rfl, hx⟩
    have X2 := Lib.hid (X1.out.trans hx)
    have c9 : ∀ A, (w1.alloc A).cell? ⟨w.heap.size + 1, 0, none⟩ = some (.slice at_ fs.length ct) := fun A => ((Ext.refl w1).alloc A).cellOf (X2.out.cellOf CT.out)
    go_wp2_with fail
    refine (LS.out _ (HT.out.ext (X2.out.trans ((Ext.refl w1).alloc _)))).mono ?_
    rintro e w2 ⟨rfl, hy⟩
    go_wp2
    go_ret2
    exact ⟨ret_int2 H.out.2.2 H.out.1, HW.out.trans (X2.out.trans (((Ext.refl w1).alloc _).trans hy))⟩
  · have H := Lib.hid (za_yes (t := t) g hl)
    obtain ⟨d0, d1⟩ := pk_Co hv hl
    have PA := Lib.hid (fun w' h => Trk.positionAt_any at_ ct fs t w' h hcap hv hl)
    rw [hl] at LS
    clear g hq hv hn hl
    obtain ⟨m, hmm⟩ : ∃ m, m = mk ms i := ⟨_, rfl⟩
    rw [← hmm] at KL H hm
    clear hmm
    obtain ⟨P, hP⟩ : ∃ P, P = pkX fs t (legOf fs t) := ⟨_, rfl⟩
    obtain ⟨Q, hQ⟩ : ∃ Q, Q = pkY fs t (legOf fs t) := ⟨_, rfl⟩
    rw [← hP, ← hQ] at PA H
    rw [← hP] at d0
    rw [← hQ] at d1
    clear hP hQ
    obtain ⟨⟨mx, my⟩, _⟩ := mk_yes hm
    have PV := Lib.hid (fun w' => vectorTo_any P Q m.x m.y w' d0 d1 mx my)
    have PL := Lib.hid (fun w' => length_any (m.x - P) (m.y - Q) w' (by unfold Co at *; omega) (by unfold Co at *; omega))
    have HE := Lib.hid (show (m.x - P) * (m.x - P) + (m.y - Q) * (m.y - Q) = sqD P Q m.x m.y from rfl)
    rw [HE.out] at PL
    clear mx my
    clear d0 d1 hm
    go_enter Tryz.func19, Tryz.ntmps19
    go_wp2_with fail
    rw [← hW0, ← hW1]
    clear hW0 hW1
    refine KL.out.mono ?_
    rintro e w1 ⟨rfl, hx⟩
    have X2 := Lib.hid (X1.out.trans hx)
    obtain ⟨W2, hW2⟩ : ∃ W2, W2 = w1.alloc (.cells #[.string m.n, .int .i64 m.x, .int .i64 m.y, .int .i64 m.s, .int .i64 m.z] 45) := ⟨_, rfl⟩
    have h2 : Ext w1 W2 := hW2 ▸ (Ext.refl w1).alloc _
    have BM := Lib.hid (show Box W2 w1.heap.size [.string m.n, .int .i64 m.x, .int .i64 m.y, .int .i64 m.s, .int .i64 m.z] from hW2 ▸ Box.new rfl)
    have c9 : ∀ A, (w1.alloc A).cell? ⟨w.heap.size + 1, 0, none⟩ = some (.slice at_ fs.length ct) := fun A => ((Ext.refl w1).alloc A).cellOf (X2.out.cellOf CT.out)
    go_wp2_with fail
    rw [← hW2]
    clear hW2
    have c8 := h2.cellOf (X2.out.cellOf CT.out)
    replace X2 := Lib.hid (X2.out.trans h2)
    refine (LS.out _ (HT.out.ext X2.out)).mono ?_
    rintro e w3 ⟨rfl, hy⟩
    have X3 := Lib.hid (X2.out.trans hy)
    have B3 := Lib.hid (BM.out.ext hy)
    have f9 : ∀ w', Ext w3 w' → w'.cell? ⟨w.heap.size + 1, 0, none⟩ = some (.slice at_ fs.length ct) := fun w' h => h.cellOf (hy.cellOf c8)
    have f0 : ∀ w', Ext w3 w' → w'.cell? ⟨w1.heap.size, 0, none⟩ = some (.string m.n) := fun w' h => h.cellOf (B3.out 0 _ rfl).1
    have f1 : ∀ w', Ext w3 w' → w'.cell? ⟨w1.heap.size, 1, none⟩ = some (.int .i64 m.x) := fun w' h => h.cellOf (B3.out 1 _ rfl).1
    have f2 : ∀ w', Ext w3 w' → w'.cell? ⟨w1.heap.size, 2, none⟩ = some (.int .i64 m.y) := fun w' h => h.cellOf (B3.out 2 _ rfl).1
    have f3 : ∀ w', Ext w3 w' → w'.cell? ⟨w1.heap.size, 3, none⟩ = some (.int .i64 m.s) := fun w' h => h.cellOf (B3.out 3 _ rfl).1
    have f4 : ∀ w', Ext w3 w' → w'.cell? ⟨w1.heap.size, 4, none⟩ = some (.int .i64 m.z) := fun w' h => h.cellOf (B3.out 4 _ rfl).1
    clear hx hy h2 c9 c8
    go_upto_region 6 with fail
    refine wp_region_held_drew (S := (fun w' => Ext w3 w')) (by kernel_rfl) (by (try dsimp only); first | go_keep | exact (Ext.refl _).drew | exact Res.new2.drew | exact Res.new4.drew | exact ResB.drew (by assumption) | exact ResC.drew (by assumption) | assumption | exact Ext.drew (by assumption) | exact Res.drew (by assumption)) (fun hHeld => ?_)
    (refine Ord.k 0 27 (v := ?_) ?_ ?_; rotate_left; (intro w h; (try dsimp only at h); go_simp; (try with_reducible rfl)); (try simp only [Act.put, Ord.a, Ord.b, Ord.c]))
    (refine Ord.k 1 28 (v := ?_) ?_ ?_; rotate_left; (intro w h; (try dsimp only at h); go_simp; (try with_reducible rfl)); (try simp only [Act.put, Ord.a, Ord.b, Ord.c]))
    (refine Ord.k 3 30 (v := ?_) ?_ ?_; rotate_left; (intro w h; (try dsimp only at h); go_simp; (try with_reducible rfl)); (try simp only [Act.put, Ord.a, Ord.b, Ord.c]))
    (refine Ord.k 4 31 (v := ?_) ?_ ?_; rotate_left; (intro w h; (try dsimp only at h); go_simp; (try with_reducible rfl)); (try simp only [Act.put, Ord.a, Ord.b, Ord.c]))
    (refine wpAnyH_ready (rs := [2]) (by kernel_rfl) (by simp) ?_; refine AllReadyH.cons rfl (fun K hK => ?_) AllReadyH.nil; go_simp; (first | (go_at_call 72; refine (PA.out _ (HT.out.ext (X3.out.trans (by first | assumption | exact (Ext.refl _).drew)))).mono ?_; rintro e w4 ⟨rfl, hy⟩) | (go_at_call 77; refine (PV.out _).mono ?_; rintro e w5 ⟨rfl, hy⟩) | (go_at_call 78; refine (PL.out _).mono ?_; rintro e w6 ⟨rfl, hy⟩)); go_wp2_with fail; (refine hK.out _ _ (by first | assumption | exact Ext.trans (by assumption) hy | exact Res.ext (by assumption) hy | exact ResB.ext (by assumption) hy | exact ResC.ext (by assumption) hy | (go_split_ands; (repeat' apply And.intro) <;> exact Ext.cellOf hy (by assumption))) (fun hHeld => ?_)); clear hK K; (try simp only [Act.put, Ord.a, Ord.b, Ord.c]))
    (refine wpAnyH_ready (rs := [5]) (by kernel_rfl) (by simp) ?_; refine AllReadyH.cons rfl (fun K hK => ?_) AllReadyH.nil; go_simp; (first | (go_at_call 72; refine (PA.out _ (HT.out.ext (X3.out.trans (by first | assumption | exact (Ext.refl _).drew)))).mono ?_; rintro e w4 ⟨rfl, hy⟩) | (go_at_call 77; refine (PV.out _).mono ?_; rintro e w5 ⟨rfl, hy⟩) | (go_at_call 78; refine (PL.out _).mono ?_; rintro e w6 ⟨rfl, hy⟩)); go_wp2_with fail; (refine hK.out _ _ (by first | assumption | exact Ext.trans (by assumption) hy | exact Res.ext (by assumption) hy | exact ResB.ext (by assumption) hy | exact ResC.ext (by assumption) hy | (go_split_ands; (repeat' apply And.intro) <;> exact Ext.cellOf hy (by assumption))) (fun hHeld => ?_)); clear hK K; (try simp only [Act.put, Ord.a, Ord.b, Ord.c]))
    (refine wpAnyH_ready (rs := [6]) (by kernel_rfl) (by simp) ?_; refine AllReadyH.cons rfl (fun K hK => ?_) AllReadyH.nil; go_simp; (first | (go_at_call 72; refine (PA.out _ (HT.out.ext (X3.out.trans (by first | assumption | exact (Ext.refl _).drew)))).mono ?_; rintro e w4 ⟨rfl, hy⟩) | (go_at_call 77; refine (PV.out _).mono ?_; rintro e w5 ⟨rfl, hy⟩) | (go_at_call 78; refine (PL.out _).mono ?_; rintro e w6 ⟨rfl, hy⟩)); go_wp2_with fail; (refine hK.out _ _ (by first | assumption | exact Ext.trans (by assumption) hy | exact Res.ext (by assumption) hy | exact ResB.ext (by assumption) hy | exact ResC.ext (by assumption) hy | (go_split_ands; (repeat' apply And.intro) <;> exact Ext.cellOf hy (by assumption))) (fun hHeld => ?_)); clear hK K; (try simp only [Act.put, Ord.a, Ord.b, Ord.c]))
    (refine Ord.k 7 8 (v := ?_) ?_ ?_; rotate_left; (intro w h; (try dsimp only at h); go_simp; (try with_reducible rfl)); (try simp only [Act.put, Ord.a, Ord.b, Ord.c]))
    (refine Ord.k 8 9 (v := ?_) ?_ ?_; rotate_left; (intro w h; (try dsimp only at h); go_simp; (try with_reducible rfl)); (try simp only [Act.put, Ord.a, Ord.b, Ord.c]))
    refine wpAnyH_done (by kernel_rfl) ?_ _
    go_wp2
    go_ret2
    exact ⟨ret_int2 H.out.2.2 H.out.1, HW.out.trans (X3.out.trans hHeld)⟩
def lzZ (l k : L4) (ms : List M5) (fs : List F3) (n : Int) : List Int := if mfC l k ms (trB fs) n = 0 then tzL (mk ms n.toNat) fs else []
def LzA (w : World) (l k : L4) (ms : List M5) (fs : List F3) (n : Int) (e : Ending) (w' : World) : Prop :=
  ∃ v, e = .returned (.tuple #[v, .int .i64 (mfC l k ms (trB fs) n)]) ∧ OwnZ w' w.heap.size v (lzZ l k ms fs n) ∧ Ext w w'
theorem lz_bad {l k : L4} {ms : List M5} {fs : List F3} {n : Int} (h : mfC l k ms (trB fs) n ≠ 0) : lzZ l k ms fs n = [] := if_neg h
theorem lz_yes {l k : L4} {ms : List M5} {fs : List F3} {i : Nat} (h : mfC l k ms (trB fs) i = 0) : lzZ l k ms fs i = tzL (mk ms i) fs := by unfold lzZ; rw [if_pos h]; simp
theorem lz_len (l k : L4) (ms : List M5) (fs : List F3) (n : Int) : (lzZ l k ms fs n).length ≤ 1000 := by
  by_cases h : mfC l k ms (trB fs) n = 0
  · obtain ⟨hq, hv, hn⟩ := mf_zero h
    have h40 := (Trk.trB_yes hv).1.2
    have := tgL_len (mk ms n.toNat) fs (fs.length - 1)
    unfold lzZ; rw [if_pos h]; unfold tzL; omega
  · rw [lz_bad h]; simp
set_option maxRecDepth 100000 in
set_option maxHeartbeats 8000000 in
theorem legsInZone_impl (l k : L4) (a : Option Addr) (cap : Nat) (ms : List M5) (n : Int) (at_ : Option Addr) (ct : Nat) (fs : List F3) (w : World) (hf : Mks w a ms) (ht : Fxs w at_ fs) :
    Calls Tryz.prog 23 #[CV l k (.slice a ms.length cap), .int .i64 n, Tr (.slice at_ fs.length ct)] w (LzA w l k ms fs n) := by
  obtain ⟨W0, hW0⟩ : ∃ W0, W0 = (w.alloc (.cells (cellsC l k (.slice a ms.length cap)).toArray 30)).alloc (.cells #[.slice at_ fs.length ct] 33) := ⟨_, rfl⟩
  have HW := Lib.hid (show Ext w W0 from hW0 ▸ ((Ext.refl w).alloc _).alloc _)
  have BB := Lib.hid (show Box W0 w.heap.size (cellsC l k (.slice a ms.length cap)) from hW0 ▸ (Box.new rfl).alloc _)
  have ctt : W0.cell? ⟨w.heap.size + 1, 0, none⟩ = some (.slice at_ fs.length ct) := hW0 ▸ boxed 0 rfl (by simp)
  have CT := Lib.hid ctt
  have HF := Lib.hid (hf.ext HW.out)
  have HT := Lib.hid (ht.ext HW.out)
  have zW : W0.heap.size = w.heap.size + 1 + 1 := by rw [hW0]; simp
  clear hf ht ctt
  obtain ⟨W1, hW1⟩ : ∃ W1, W1 = W0.alloc (.cells #[.slice at_ fs.length ct] 33) := ⟨_, rfl⟩
  have h1 : Ext W0 W1 := hW1 ▸ (Ext.refl W0).alloc _
  have TK := Lib.hid (Tks.one (w := W1) (b := w.heap.size + 1 + 1) (t := ⟨at_, ct, fs⟩) (hW1 ▸ boxed 0 rfl zW) (HT.out.ext h1))
  have KL := Lib.hid (markFor_any l k a cap ms n (some ⟨w.heap.size + 1 + 1, 0, none⟩) 1 [⟨at_, ct, fs⟩] W1 (HF.out.ext h1) TK.out)
  rw [tsB_one] at KL
  have X1 := Lib.hid h1
  clear h1 zW
  by_cases g : mfC l k ms (trB fs) n = 0
  rotate_left
  · have HY := Lib.hid (lz_bad g)
    have g1 : (mfC l k ms (trB fs) n != 0) = true := by simp [g]
    have g2 : (mfC l k ms (trB fs) n == 0) = false := beq_eq_false_iff_ne.2 g
    obtain ⟨C, hC⟩ : ∃ C, C = mfC l k ms (trB fs) n := ⟨_, rfl⟩
    have HC := Lib.hid hC
    rw [← hC] at KL g1 g2
    clear g hC
    go_enter Tryz.func23, Tryz.ntmps23
    go_wp2_with fail
    rw [← hW0, ← hW1]
    clear hW0 hW1
    refine KL.out.mono ?_
    rintro e w1 ⟨rfl, hx⟩
    go_wp2
    go_ret2
    exact ⟨_, ret_vi HC.out.symm, by rw [HY.out]; exact OwnZ.nil _ _, HW.out.trans (X1.out.trans (hx.alloc _))⟩
  obtain ⟨hq, hv, hn⟩ := mf_zero g
  obtain ⟨i, rfl⟩ : ∃ i : Nat, n = i := ⟨n.toNat, by omega⟩
  have hi : i < ms.length := by omega
  have hm := cr_mk hq hi
  have h2 := (Trk.trB_yes hv).1.1
  have HY := Lib.hid (And.intro (lz_yes g) g)
  rw [mf_mk g, g] at KL
  have KT := Lib.hid (fun w' h => legsTouching_any (mk ms i) at_ ct fs w' h hv hm)
  clear g hq hv hn hm
  obtain ⟨m, hmm⟩ : ∃ m, m = mk ms i := ⟨_, rfl⟩
  rw [← hmm] at KL HY KT
  clear hmm
  go_enter Tryz.func23, Tryz.ntmps23
  go_wp2_with fail
  rw [← hW0, ← hW1]
  clear hW0 hW1
  refine KL.out.mono ?_
  rintro e w1 ⟨rfl, hx⟩
  have X2 := Lib.hid (X1.out.trans hx)
  have c9 : ∀ A, (w1.alloc A).cell? ⟨w.heap.size + 1, 0, none⟩ = some (.slice at_ fs.length ct) := fun A => ((Ext.refl w1).alloc A).cellOf (X2.out.cellOf CT.out)
  go_wp2_with fail
  refine (KT.out _ (HT.out.ext (X2.out.trans ((Ext.refl w1).alloc _)))).mono ?_
  rintro e w2 ⟨v, rfl, hO, hy⟩
  go_wp2
  go_ret2
  exact ⟨_, ret_vi HY.out.2, by rw [HY.out.1]; exact hO.mono (Ext.size (HW.out.trans (X2.out.trans ((Ext.refl w1).alloc _)))), HW.out.trans (X2.out.trans (((Ext.refl w1).alloc _).trans hy))⟩
def lmC (l k : L4) (ms : List M5) (fs : List F3) (n t h : Int) : Int := if zaC l k ms fs n t = 0 then (if 1 ≤ h ∧ h ≤ 1000 then 0 else 2) else zaC l k ms fs n t
def lmV (l k : L4) (ms : List M5) (fs : List F3) (n t h : Int) : Int := if lmC l k ms fs n t h = 0 then dmV l k ms fs n t / h else 0
theorem lm_bad {l k : L4} {ms : List M5} {fs : List F3} {n t h : Int} (g : zaC l k ms fs n t ≠ 0) : lmC l k ms fs n t h = zaC l k ms fs n t ∧ lmV l k ms fs n t h = 0 := by
  have e : lmC l k ms fs n t h = zaC l k ms fs n t := if_neg g
  exact ⟨e, by unfold lmV; rw [if_neg (by rw [e]; exact g)]⟩
theorem lm_out {l k : L4} {ms : List M5} {fs : List F3} {n t h : Int} (g : zaC l k ms fs n t = 0) (q : ¬ (1 ≤ h ∧ h ≤ 1000)) : lmC l k ms fs n t h = 2 ∧ lmV l k ms fs n t h = 0 := by
  have e : lmC l k ms fs n t h = 2 := by unfold lmC; rw [if_pos g, if_neg q]
  exact ⟨e, by unfold lmV; rw [if_neg (by rw [e]; decide)]⟩
theorem lm_yes {l k : L4} {ms : List M5} {fs : List F3} {n t h : Int} (g : zaC l k ms fs n t = 0) (q : 1 ≤ h ∧ h ≤ 1000) : lmC l k ms fs n t h = 0 ∧ lmV l k ms fs n t h = dmV l k ms fs n t / h := by
  have e : lmC l k ms fs n t h = 0 := by unfold lmC; rw [if_pos g, if_pos q]
  exact ⟨e, by unfold lmV; rw [if_pos e]⟩
theorem za_zero {l k : L4} {ms : List M5} {fs : List F3} {n t : Int} (h : zaC l k ms fs n t = 0) : mfC l k ms (trB fs) n = 0 ∧ lastB fs t = true := by
  by_cases g : mfC l k ms (trB fs) n = 0
  · cases hl : lastB fs t
    · rw [(za_out g hl).1] at h; cases h
    · exact ⟨g, rfl⟩
  · rw [(za_bad g).1] at h; exact absurd h g
theorem dm_bd (l k : L4) (ms : List M5) (fs : List F3) (n t : Int) : 0 ≤ dmV l k ms fs n t ∧ dmV l k ms fs n t ≤ 2828428 := by
  by_cases h : zaC l k ms fs n t = 0
  · obtain ⟨g, hl⟩ := za_zero h
    obtain ⟨hq, hv, hn⟩ := mf_zero g
    have hm := cr_mk hq (show n.toNat < ms.length by omega)
    obtain ⟨⟨mx, my⟩, _⟩ := mk_yes hm
    obtain ⟨d0, d1⟩ := pk_Co hv hl
    unfold dmV; rw [if_pos h]
    obtain ⟨b0, b1⟩ := sq_bd d0 d1 mx my
    exact Wid.rt_bd b0 b1
  · unfold dmV; rw [if_neg h]; omega
set_option maxRecDepth 100000 in
set_option maxHeartbeats 8000000 in
theorem lengthsToMark_impl (l k : L4) (a : Option Addr) (cap : Nat) (ms : List M5) (n : Int) (at_ : Option Addr) (ct : Nat) (fs : List F3) (t h : Int) (w : World) (hf : Mks w a ms) (ht : Fxs w at_ fs) (hcap : fs.length ≤ ct) :
    Calls Tryz.prog 20 #[CV l k (.slice a ms.length cap), .int .i64 n, Tr (.slice at_ fs.length ct), .int .i64 t, .int .i64 h] w fun e w' => e = .returned (.tuple #[.int .i64 (lmV l k ms fs n t h), .int .i64 (lmC l k ms fs n t h)]) ∧ Ext w w' := by
  obtain ⟨W0, hW0⟩ : ∃ W0, W0 = (w.alloc (.cells (cellsC l k (.slice a ms.length cap)).toArray 30)).alloc (.cells #[.slice at_ fs.length ct] 33) := ⟨_, rfl⟩
  have HW := Lib.hid (show Ext w W0 from hW0 ▸ ((Ext.refl w).alloc _).alloc _)
  have BB := Lib.hid (show Box W0 w.heap.size (cellsC l k (.slice a ms.length cap)) from hW0 ▸ (Box.new rfl).alloc _)
  have ctt : W0.cell? ⟨w.heap.size + 1, 0, none⟩ = some (.slice at_ fs.length ct) := hW0 ▸ boxed 0 rfl (by simp)
  have CT := Lib.hid ctt
  have HF := Lib.hid (hf.ext HW.out)
  have HT := Lib.hid (ht.ext HW.out)
  clear hf ht ctt
  have KD := Lib.hid (distanceToMark_impl l k a cap ms n at_ ct fs t W0 HF.out HT.out hcap)
  by_cases g : zaC l k ms fs n t = 0
  rotate_left
  · have HY := Lib.hid (lm_bad (h := h) g)
    have g1 : (zaC l k ms fs n t != 0) = true := by simp [g]
    have g2 : (zaC l k ms fs n t == 0) = false := beq_eq_false_iff_ne.2 g
    obtain ⟨C, hC⟩ : ∃ C, C = zaC l k ms fs n t := ⟨_, rfl⟩
    have HC := Lib.hid hC
    rw [← hC] at KD g1 g2
    clear g hC
    go_enter Tryz.func20, Tryz.ntmps20
    go_wp2_with fail
    rw [← hW0]
    clear hW0
    refine KD.out.mono ?_
    rintro e w1 ⟨rfl, hx⟩
    go_wp2
    go_ret2
    exact ⟨ret_int2 HY.out.2 (HY.out.1.trans HC.out.symm), HW.out.trans hx⟩
  obtain ⟨b0, b1⟩ := dm_bd l k ms fs n t
  have HO := Lib.hid (fun q => lm_out (h := h) g q)
  have HI := Lib.hid (fun q => lm_yes (h := h) g q)
  rw [g] at KD
  obtain ⟨D, hD⟩ : ∃ D, D = dmV l k ms fs n t := ⟨_, rfl⟩
  rw [← hD] at KD HI b0 b1
  clear hD g
  by_cases h1 : h < 1
  · have d1 : decide (h < 1) = true := decide_eq_true h1
    have H := Lib.hid (HO.out (by omega))
    go_enter Tryz.func20, Tryz.ntmps20
    go_wp2_with fail
    rw [← hW0]
    clear hW0
    refine KD.out.mono ?_
    rintro e w1 ⟨rfl, hx⟩
    go_wp2
    go_ret2
    exact ⟨ret_int2 H.out.2 H.out.1, HW.out.trans hx⟩
  have d1 : decide (h < 1) = false := decide_eq_false h1
  by_cases h2 : 1000 < h
  · have d2 : decide (1000 < h) = true := decide_eq_true h2
    have H := Lib.hid (HO.out (by omega))
    go_enter Tryz.func20, Tryz.ntmps20
    go_wp2_with fail
    rw [← hW0]
    clear hW0
    refine KD.out.mono ?_
    rintro e w1 ⟨rfl, hx⟩
    go_wp2
    go_ret2
    exact ⟨ret_int2 H.out.2 H.out.1, HW.out.trans hx⟩
  · have d2 : decide (1000 < h) = false := decide_eq_false h2
    have H := Lib.hid (HI.out (by omega))
    have h3 : 1 ≤ h := by omega
    have h4 : h ≤ 1000 := by omega
    obtain ⟨e1, e2⟩ := div_bd b0 h3
    go_enter Tryz.func20, Tryz.ntmps20
    go_wp2_with fail
    rw [← hW0]
    clear hW0
    refine KD.out.mono ?_
    rintro e w1 ⟨rfl, hx⟩
    go_wp2
    go_ret2
    exact ⟨ret_int2 H.out.2 H.out.1, HW.out.trans hx⟩
end Go.Proofs.YtplbahdomjeekaaGreat.Crs
