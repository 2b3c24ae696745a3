import Derived.Test.YtplbahdomjeekaaGreatZon5
import Derived.Test.YtplbahdomjeekaaGreatSid
namespace Go.Proofs.YtplbahdomjeekaaGreat.Crs
open Go.ChangeShapes Go.WideShapes Go.ChangeAt Go.RowKit Go.PlainAid
open Go.Proofs.YtplbahdomjeekaaGreat.Num Go.Proofs.YtplbahdomjeekaaGreat.Kit Go.Proofs.YtplbahdomjeekaaGreat.Pts Go.Proofs.YtplbahdomjeekaaGreat.Seg Go.Proofs.YtplbahdomjeekaaGreat.Div Go.Proofs.YtplbahdomjeekaaGreat.Root Go.Proofs.YtplbahdomjeekaaGreat.Rt Go.Proofs.YtplbahdomjeekaaGreat.Gcd
open Go.Proofs.YtplbahdomjeekaaGreat.Trk (F3 Fxs Tr trB fx lastB legOf pkX pkY pk_Co)

set_option linter.unusedVariables false
set_option linter.unusedSimpArgs false
def ntK (m : M5) (fs : List F3) : Nat := nlK m fs (fs.length - 2)
def ntV (l k : L4) (ms : List M5) (fs : List F3) (n : Int) : Int := if mfC l k ms (trB fs) n = 0 then (ntK (mk ms n.toNat) fs : Nat) else 0
def ntX (l k : L4) (ms : List M5) (fs : List F3) (n : Int) : Int := if mfC l k ms (trB fs) n = 0 then nlX (mk ms n.toNat) fs (ntK (mk ms n.toNat) fs) else 0
def ntY (l k : L4) (ms : List M5) (fs : List F3) (n : Int) : Int := if mfC l k ms (trB fs) n = 0 then nlY (mk ms n.toNat) fs (ntK (mk ms n.toNat) fs) else 0
theorem nt_bad {l k : L4} {ms : List M5} {fs : List F3} {n : Int} (h : mfC l k ms (trB fs) n ≠ 0) : ntV l k ms fs n = 0 ∧ ntX l k ms fs n = 0 ∧ ntY l k ms fs n = 0 := ⟨if_neg h, if_neg h, if_neg h⟩
theorem nt_yes {l k : L4} {ms : List M5} {fs : List F3} {i : Nat} (h : mfC l k ms (trB fs) i = 0) : ntV l k ms fs i = (ntK (mk ms i) fs : Nat) ∧ ntX l k ms fs i = nlX (mk ms i) fs (ntK (mk ms i) fs) ∧ ntY l k ms fs i = nlY (mk ms i) fs (ntK (mk ms i) fs) := by
  refine ⟨?_, ?_, ?_⟩
  · unfold ntV; rw [if_pos h]; simp
  · unfold ntX; rw [if_pos h]; simp
  · unfold ntY; rw [if_pos h]; simp
def RelNt (W : World) (B : Nat) (m : M5) (fs : List F3) (o i : Value) (wr : World) : Prop :=
  ∃ j : Nat, i = .int .i64 ((j : Int) + 1) ∧ j + 1 ≤ fs.length - 1 ∧ o = .int .i64 (nlK m fs j) ∧ Box wr B [.int .i64 (nlX m fs (nlK m fs j)), .int .i64 (nlY m fs (nlK m fs j))] ∧ Ext W wr
theorem nlK_yes {m : M5} {fs : List F3} {n : Nat} (h : nlD m fs (n + 1) < nlD m fs (nlK m fs n)) : nlK m fs (n + 1) = n + 1 := if_pos h
theorem nlK_no {m : M5} {fs : List F3} {n : Nat} (h : ¬ nlD m fs (n + 1) < nlD m fs (nlK m fs n)) : nlK m fs (n + 1) = nlK m fs n := if_neg h
theorem nti_done {n : Nat} {w F : World} {tmps : Array Value} {v x y c v' x' y' c' : Int} (B : Box F n [.int .i64 x, .int .i64 y]) (hC : Ext w F) (h6 : tmps[6]? = some (.int .i64 v)) (h7 : tmps[7]? = some (.pointer (some ⟨n, 0, none⟩))) (h8 : tmps[8]? = some (.int .i64 c)) (e1 : v' = v) (e2 : x' = x) (e3 : y' = y) (e4 : c' = c) :
    bodyPost Tryz.prog Tryz.f30 (fun e w' => e = .returned (.tuple #[.int .i64 v', Pt x' y', .int .i64 c']) ∧ Ext w w') Exit.ret ⟨tmps, []⟩ F := by
  obtain ⟨⟨g0, g1⟩, _⟩ := B.two
  subst e1 e2 e3 e4
  exact bodyPost_ret (v := .tuple #[.int .i64 v', Pt x' y', .int .i64 c']) (by simp [results, Tryz.results30, go_sem, h6, h7, h8, g0, g1]) rfl ⟨rfl, hC⟩
theorem nts_done {n : Nat} {w F : World} {tmps : Array Value} {v x y c v' x' y' c' : Int} (B : Box F n [.int .i64 x, .int .i64 y]) (hC : Ext w F) (h6 : tmps[6]? = some (.int .i64 v)) (h7 : tmps[7]? = some (.pointer (some ⟨n, 0, none⟩))) (h8 : tmps[8]? = some (.int .i64 c)) (e1 : v' = v) (e2 : x' = x) (e3 : y' = y) (e4 : c' = c) :
    bodyPost Tryz.prog Tryz.f31 (fun e w' => e = .returned (.tuple #[.int .i64 v', Pt x' y', .int .i64 c']) ∧ Ext w w') Exit.ret ⟨tmps, []⟩ F := by
  obtain ⟨⟨g0, g1⟩, _⟩ := B.two
  subst e1 e2 e3 e4
  exact bodyPost_ret (v := .tuple #[.int .i64 v', Pt x' y', .int .i64 c']) (by simp [results, Tryz.results31, go_sem, h6, h7, h8, g0, g1]) rfl ⟨rfl, hC⟩
set_option maxRecDepth 100000 in
set_option maxHeartbeats 16000000 in
theorem nearestOnTrack_impl (l k : L4) (a : Option Addr) (cap : Nat) (ms : List M5) (n : Int) (at_ : Option Addr) (ct : Nat) (fs : List F3) (w : World) (hf : Mks w a ms) (ht : Fxs w at_ fs) :
    Calls Tryz.prog 30 #[CV l k (.slice a ms.length cap), .int .i64 n, Tr (.slice at_ fs.length ct)] w fun e w' => e = .returned (.tuple #[.int .i64 (ntV l k ms fs n), Pt (ntX l k ms fs n) (ntY l k ms fs n), .int .i64 (mfC l k ms (trB fs) n)]) ∧ Ext w w' := by
  obtain ⟨W0, hW0⟩ : ∃ W0, W0 = ((w.alloc (.cells (cellsC l k (.slice a ms.length cap)).toArray 30)).alloc (.cells #[.slice at_ fs.length ct] 33)).alloc (.cells #[.int .i64 0, .int .i64 0] 25) := ⟨_, rfl⟩
  have HW := Lib.hid (show Ext w W0 from hW0 ▸ (((Ext.refl w).alloc _).alloc _).alloc _)
  have ctt : W0.cell? ⟨w.heap.size + 1, 0, none⟩ = some (.slice at_ fs.length ct) := hW0 ▸ ((Ext.refl _).alloc _).cellOf (boxed 0 rfl (by simp))
  have CT := Lib.hid ctt
  have BR := Lib.hid (show Box W0 (w.heap.size + 1 + 1) [.int .i64 0, .int .i64 0] from hW0 ▸ Box.new2 (by simp))
  have HF := Lib.hid (hf.ext HW.out)
  have HT := Lib.hid (ht.ext HW.out)
  have zW : W0.heap.size = w.heap.size + 1 + 1 + 1 := by rw [hW0]; simp
  clear hf ht ctt
  obtain ⟨W1, hW1⟩ : ∃ W1, W1 = W0.alloc (.cells #[.slice at_ fs.length ct] 33) := ⟨_, rfl⟩
  have h1 : Ext W0 W1 := hW1 ▸ (Ext.refl W0).alloc _
  have TK := Lib.hid (Tks.one (w := W1) (b := w.heap.size + 1 + 1 + 1) (t := ⟨at_, ct, fs⟩) (hW1 ▸ boxed 0 rfl zW) (HT.out.ext h1))
  have KL := Lib.hid (markFor_any l k a cap ms n (some ⟨w.heap.size + 1 + 1 + 1, 0, none⟩) 1 [⟨at_, ct, fs⟩] W1 (HF.out.ext h1) TK.out)
  rw [tsB_one] at KL
  have X1 := Lib.hid h1
  have zX := Ext.size h1
  clear h1
  by_cases g : mfC l k ms (trB fs) n = 0
  rotate_left
  · have HY := Lib.hid (nt_bad g)
    have g1 : (mfC l k ms (trB fs) n != 0) = true := by simp [g]
    have g2 : (mfC l k ms (trB fs) n == 0) = false := beq_eq_false_iff_ne.2 g
    obtain ⟨C, hC⟩ : ∃ C, C = mfC l k ms (trB fs) n := ⟨_, rfl⟩
    have HC := Lib.hid hC
    rw [← hC] at KL g1 g2
    clear g hC
    obtain ⟨M, hM⟩ : ∃ M, M = mfM l k ms (trB fs) n := ⟨_, rfl⟩
    rw [← hM] at KL
    clear hM
    go_enter Tryz.func30, Tryz.ntmps30
    go_wp2_with fail
    rw [← hW0, ← hW1]
    clear hW0 hW1
    refine KL.out.mono ?_
    rintro e w1 ⟨rfl, hx⟩
    have hx2 := (X1.out.trans hx).alloc (.cells #[.string M.n, .int .i64 M.x, .int .i64 M.y, .int .i64 M.s, .int .i64 M.z] 45)
    have BR2 := BR.out.ext hx2
    obtain ⟨⟨r0, r1⟩, s0, s1⟩ := BR2.two
    go_wp2
    obtain ⟨q1, q2⟩ := put2_box (HW.out.trans hx2) (show w.heap.size ≤ w.heap.size + 1 + 1 by omega) BR2 0 0
    exact nti_done q2 q1 rfl rfl rfl HY.out.1 HY.out.2.1 HY.out.2.2 HC.out.symm
  obtain ⟨hq, hv, hn⟩ := mf_zero g
  obtain ⟨i, rfl⟩ : ∃ i : Nat, n = i := ⟨n.toNat, by omega⟩
  have hi : i < ms.length := by omega
  have hm := cr_mk hq hi
  obtain ⟨⟨h2, h40⟩, hok⟩ := Trk.trB_yes hv
  have HY := Lib.hid (And.intro (nt_yes g) g)
  rw [mf_mk g, g] at KL
  obtain ⟨m, hmm⟩ : ∃ m, m = mk ms i := ⟨_, rfl⟩
  rw [← hmm] at KL HY hm
  obtain ⟨⟨mx, my⟩, _⟩ := mk_yes hm
  have HCo := Lib.hid (fun i (hi : i < fs.length) => (Trk.fxB_yes (Trk.okB_fx (hok i hi))).2)
  have KG := Lib.hid (fun (i : Nat) w' (h : Fxs w' at_ fs) (hi : i + 1 < fs.length) => Trk.leg_any at_ ct fs i w' h hi (by omega))
  have KC := Lib.hid (fun w' (h : Fxs w' at_ fs) => Trk.legCount_any at_ ct fs.length w' (by omega) (by omega))
  have KN := Lib.hid (fun (i : Nat) w' (hi : i + 1 < fs.length) => show Calls Tryz.prog 87 #[Sg (fx fs i).x (fx fs i).y (fx fs (i + 1)).x (fx fs (i + 1)).y, Pt m.x m.y] w' (fun e w'' => e = .returned (Pt (nlX m fs i) (nlY m fs i)) ∧ Ext w' w'') from nearestPoint_any _ _ _ _ m.x m.y w' (HCo.out i (by omega)).1 (HCo.out i (by omega)).2 (HCo.out (i + 1) hi).1 (HCo.out (i + 1) hi).2 mx my)
  have NC := Lib.hid (fun (i : Nat) (hi : i + 1 < fs.length) => np_Co (p := m.x) (q := m.y) (HCo.out i (by omega)).1 (HCo.out i (by omega)).2 (HCo.out (i + 1) hi).1 (HCo.out (i + 1) hi).2)
  have KV := Lib.hid (fun (i : Nat) w' (hi : i + 1 < fs.length) => vectorTo_any (nlX m fs i) (nlY m fs i) m.x m.y w' (NC.out i hi).1 (NC.out i hi).2 mx my)
  have KS := Lib.hid (fun (i : Nat) w' (hi : i + 1 < fs.length) => show Calls Tryz.prog 81 #[Pt (m.x - nlX m fs i) (m.y - nlY m fs i)] w' (fun e w'' => e = .returned (.int .i64 (nlD m fs i)) ∧ Ext w' w'') from squareLength_any (m.x - nlX m fs i) (m.y - nlY m fs i) w' (by have := (NC.out i hi).1; unfold nlX; omega) (by have := (NC.out i hi).2; unfold nlY; omega))
  clear hmm g hq hv hn hm hok mx my NC HCo
  go_enter Tryz.func30, Tryz.ntmps30
  go_wp2_with fail
  rw [← hW0, ← hW1]
  clear hW0 hW1
  refine KL.out.mono ?_
  rintro e w1 ⟨rfl, hx⟩
  obtain ⟨W2, hW2⟩ : ∃ W2, W2 = w1.alloc (.cells #[.string m.n, .int .i64 m.x, .int .i64 m.y, .int .i64 m.s, .int .i64 m.z] 45) := ⟨_, rfl⟩
  have h2' : Ext w1 W2 := hW2 ▸ (Ext.refl w1).alloc _
  have BM := Lib.hid (show Box W2 w1.heap.size [.string m.n, .int .i64 m.x, .int .i64 m.y, .int .i64 m.s, .int .i64 m.z] from hW2 ▸ Box.new rfl)
  have X2 := Lib.hid (X1.out.trans (hx.trans h2'))
  have zz : w.heap.size + 1 + 1 < W2.heap.size := by have := Ext.size X2.out; omega
  have zw : w1.heap.size < W2.heap.size := by rw [hW2]; simp
  have zv : w.heap.size + 1 + 1 < w1.heap.size := by have := Ext.size hx; omega
  clear hx h2'
  go_upto_region 4 with fail
  rw [← hW2]
  clear hW2
  have e5 : ∀ w', Ext W2 w' → w'.cell? ⟨w.heap.size + 1, 0, none⟩ = some (.slice at_ fs.length ct) := fun w' h => h.cellOf (X2.out.cellOf CT.out)
  have e91 : ∀ w', Ext W2 w' → w'.cell? ⟨w1.heap.size, 1, none⟩ = some (.int .i64 m.x) := fun w' h => h.cellOf (BM.out 1 _ rfl).1
  have e92 : ∀ w', Ext W2 w' → w'.cell? ⟨w1.heap.size, 2, none⟩ = some (.int .i64 m.y) := fun w' h => h.cellOf (BM.out 2 _ rfl).1
  go_cut [11, 12] (fun s s2 wx => s = .int .i64 0 ∧ (∃ B, s2 = .pointer (some ⟨B, 0, none⟩) ∧ W2.heap.size ≤ B ∧ Box wx B [.int .i64 (nlX m fs 0), .int .i64 (nlY m fs 0)]) ∧ Ext W2 wx)
  case first =>
    refine wp_region_held_drew (S := fun w' => Ext W2 w') (by kernel_rfl) (by (try dsimp only); exact Ext.drew (Ext.refl W2)) (fun hHeld => ?_)
    have hE : Ext W2 W2.drew := Ext.drew (Ext.refl W2)
    obtain ⟨V0, hV0⟩ : ∃ V0, V0 = W2.drew := ⟨_, rfl⟩
    rw [← hV0] at hE hHeld ⊢
    clear hV0
    (refine Ord.k 0 27 (v := ?_) ?_ ?_; rotate_left; (intro w h; (try dsimp only at h); go_simp; (try with_reducible rfl)); (try simp only [Act.put, Ord.a, Ord.b, Ord.c])); (refine Ord.k 2 29 (v := ?_) ?_ ?_; rotate_left; (intro w h; (try dsimp only at h); go_simp; (try with_reducible rfl)); (try simp only [Act.put, Ord.a, Ord.b, Ord.c])); (refine Ord.k 3 30 (v := ?_) ?_ ?_; rotate_left; (intro w h; (try dsimp only at h); go_simp; (try with_reducible rfl)); (try simp only [Act.put, Ord.a, Ord.b, Ord.c]))
    refine wpAnyH_ready (rs := [1, 5]) (by kernel_rfl) (by simp) ?_
    refine (AllReadyH.cons rfl (fun K hK => ?_) (AllReadyH.cons rfl (fun K hK => ?_) AllReadyH.nil))
    · go_simp
      go_at_call 86
      refine (KG.out 0 _ (HT.out.ext (X2.out.trans hE)) (by omega)).mono ?_
      rintro e V1 ⟨rfl, hy⟩
      go_wp2_with fail
      have zy := Ext.size hy
      have hE' := hE.trans hy
      refine hK.out _ _ hE' (fun hHeld => ?_)
      clear hK K
      (try simp only [Act.put, Ord.a, Ord.b, Ord.c])
      replace hE := hE'
      clear hE' hy
      refine wpAnyH_ready (rs := [4, 5]) (by kernel_rfl) (by simp) ?_
      refine (AllReadyH.cons rfl (fun K hK => ?_) (AllReadyH.cons rfl (fun K hK => ?_) AllReadyH.nil))
      · go_simp
        go_at_call 87
        refine (KN.out 0 _ (by omega)).mono ?_
        rintro e V2 ⟨rfl, hy⟩
        go_wp2_with fail
        have zy := Ext.size hy
        have hE' := hE.trans hy
        refine hK.out _ _ hE' (fun hHeld => ?_)
        clear hK K
        (try simp only [Act.put, Ord.a, Ord.b, Ord.c])
        replace hE := hE'
        clear hE' hy
        refine wpAnyH_ready (rs := [5]) (by kernel_rfl) (by simp) ?_
        refine (AllReadyH.cons rfl (fun K hK => ?_) AllReadyH.nil)
        go_simp
        have hy : Ext V2 (V2.alloc (.cells #[.int .i64 0, .int .i64 0] 25)) := (Ext.refl V2).alloc _
        have hE' := hE.trans hy
        refine hK.out _ _ hE' (fun hHeld => ?_)
        clear hK K
        (try simp only [Act.put, Ord.a, Ord.b, Ord.c])
        have P5 : Box (V2.alloc (.cells #[.int .i64 0, .int .i64 0] 25)) V2.heap.size [.int .i64 0, .int .i64 0] := Box.new (vs := [.int .i64 0, .int .i64 0]) rfl
        have z5 := Ext.size hE
        have y5 : V2.heap.size < (V2.alloc (.cells #[.int .i64 0, .int .i64 0] 25)).heap.size := by simp
        replace hE := hE'
        clear hE' hy
        generalize V2.alloc (.cells #[.int .i64 0, .int .i64 0] 25) = V3 at *
        (refine Ord.k 6 11 (v := ?_) ?_ ?_; rotate_left; (intro w h; (try dsimp only at h); go_simp; (try with_reducible rfl)); (try simp only [Act.put, Ord.a, Ord.b, Ord.c]))
        refine wpAnyH_ready (rs := [7]) (by kernel_rfl) (by simp) ?_
        refine (AllReadyH.cons rfl (fun K hK => ?_) AllReadyH.nil)
        obtain ⟨⟨r0, r1⟩, r2, r3⟩ := P5.two
        go_simp
        have hE' : Ext W2 ((V3.setCell ⟨V2.heap.size, 0, none⟩ (.int .i64 (nlX m fs 0))).setCell ⟨V2.heap.size, 1, none⟩ (.int .i64 (nlY m fs 0))) := ((hE.setNew (by first | omega | (simp; omega) | simp) _).setNew (by first | omega | (simp; omega) | simp) _)
        refine hK.out _ _ hE' (fun hHeld => ?_)
        clear hK K r0 r1 r2 r3
        (try simp only [Act.put, Ord.a, Ord.b, Ord.c])
        replace P5 := P5.set2 (u := .int .i64 (nlX m fs 0)) (v := .int .i64 (nlY m fs 0))
        replace hE := hE'
        clear hE'
        generalize ((V3.setCell ⟨V2.heap.size, 0, none⟩ (.int .i64 (nlX m fs 0))).setCell ⟨V2.heap.size, 1, none⟩ (.int .i64 (nlY m fs 0))) = V4 at *
        refine wpAnyH_done (by kernel_rfl) ?_ _
        go_wp2_with fail; go_meet; exact ⟨rfl, ⟨_, rfl, by omega, P5⟩, hE⟩
      · go_simp
        have hy : Ext V1 (V1.alloc (.cells #[.int .i64 0, .int .i64 0] 25)) := (Ext.refl V1).alloc _
        have hE' := hE.trans hy
        refine hK.out _ _ hE' (fun hHeld => ?_)
        clear hK K
        (try simp only [Act.put, Ord.a, Ord.b, Ord.c])
        have P5 : Box (V1.alloc (.cells #[.int .i64 0, .int .i64 0] 25)) V1.heap.size [.int .i64 0, .int .i64 0] := Box.new (vs := [.int .i64 0, .int .i64 0]) rfl
        have z5 := Ext.size hE
        have y5 : V1.heap.size < (V1.alloc (.cells #[.int .i64 0, .int .i64 0] 25)).heap.size := by simp
        replace hE := hE'
        clear hE' hy
        generalize V1.alloc (.cells #[.int .i64 0, .int .i64 0] 25) = V2 at *
        refine wpAnyH_ready (rs := [4]) (by kernel_rfl) (by simp) ?_
        refine (AllReadyH.cons rfl (fun K hK => ?_) AllReadyH.nil)
        go_simp
        go_at_call 87
        refine (KN.out 0 _ (by omega)).mono ?_
        rintro e V3 ⟨rfl, hy⟩
        go_wp2_with fail
        have zy := Ext.size hy
        have hE' := hE.trans hy
        refine hK.out _ _ hE' (fun hHeld => ?_)
        clear hK K
        (try simp only [Act.put, Ord.a, Ord.b, Ord.c])
        replace P5 := P5.ext hy
        replace hE := hE'
        clear hE' hy
        (refine Ord.k 6 11 (v := ?_) ?_ ?_; rotate_left; (intro w h; (try dsimp only at h); go_simp; (try with_reducible rfl)); (try simp only [Act.put, Ord.a, Ord.b, Ord.c]))
        refine wpAnyH_ready (rs := [7]) (by kernel_rfl) (by simp) ?_
        refine (AllReadyH.cons rfl (fun K hK => ?_) AllReadyH.nil)
        obtain ⟨⟨r0, r1⟩, r2, r3⟩ := P5.two
        go_simp
        have hE' : Ext W2 ((V3.setCell ⟨V1.heap.size, 0, none⟩ (.int .i64 (nlX m fs 0))).setCell ⟨V1.heap.size, 1, none⟩ (.int .i64 (nlY m fs 0))) := ((hE.setNew (by first | omega | (simp; omega) | simp) _).setNew (by first | omega | (simp; omega) | simp) _)
        refine hK.out _ _ hE' (fun hHeld => ?_)
        clear hK K r0 r1 r2 r3
        (try simp only [Act.put, Ord.a, Ord.b, Ord.c])
        replace P5 := P5.set2 (u := .int .i64 (nlX m fs 0)) (v := .int .i64 (nlY m fs 0))
        replace hE := hE'
        clear hE'
        generalize ((V3.setCell ⟨V1.heap.size, 0, none⟩ (.int .i64 (nlX m fs 0))).setCell ⟨V1.heap.size, 1, none⟩ (.int .i64 (nlY m fs 0))) = V4 at *
        refine wpAnyH_done (by kernel_rfl) ?_ _
        go_wp2_with fail; go_meet; exact ⟨rfl, ⟨_, rfl, by omega, P5⟩, hE⟩
    · go_simp
      have hy : Ext V0 (V0.alloc (.cells #[.int .i64 0, .int .i64 0] 25)) := (Ext.refl V0).alloc _
      have hE' := hE.trans hy
      refine hK.out _ _ hE' (fun hHeld => ?_)
      clear hK K
      (try simp only [Act.put, Ord.a, Ord.b, Ord.c])
      have P5 : Box (V0.alloc (.cells #[.int .i64 0, .int .i64 0] 25)) V0.heap.size [.int .i64 0, .int .i64 0] := Box.new (vs := [.int .i64 0, .int .i64 0]) rfl
      have z5 := Ext.size hE
      have y5 : V0.heap.size < (V0.alloc (.cells #[.int .i64 0, .int .i64 0] 25)).heap.size := by simp
      replace hE := hE'
      clear hE' hy
      generalize V0.alloc (.cells #[.int .i64 0, .int .i64 0] 25) = V1 at *
      refine wpAnyH_ready (rs := [1]) (by kernel_rfl) (by simp) ?_
      refine (AllReadyH.cons rfl (fun K hK => ?_) AllReadyH.nil)
      go_simp
      go_at_call 86
      refine (KG.out 0 _ (HT.out.ext (X2.out.trans hE)) (by omega)).mono ?_
      rintro e V2 ⟨rfl, hy⟩
      go_wp2_with fail
      have zy := Ext.size hy
      have hE' := hE.trans hy
      refine hK.out _ _ hE' (fun hHeld => ?_)
      clear hK K
      (try simp only [Act.put, Ord.a, Ord.b, Ord.c])
      replace P5 := P5.ext hy
      replace hE := hE'
      clear hE' hy
      refine wpAnyH_ready (rs := [4]) (by kernel_rfl) (by simp) ?_
      refine (AllReadyH.cons rfl (fun K hK => ?_) AllReadyH.nil)
      go_simp
      go_at_call 87
      refine (KN.out 0 _ (by omega)).mono ?_
      rintro e V3 ⟨rfl, hy⟩
      go_wp2_with fail
      have zy := Ext.size hy
      have hE' := hE.trans hy
      refine hK.out _ _ hE' (fun hHeld => ?_)
      clear hK K
      (try simp only [Act.put, Ord.a, Ord.b, Ord.c])
      replace P5 := P5.ext hy
      replace hE := hE'
      clear hE' hy
      (refine Ord.k 6 11 (v := ?_) ?_ ?_; rotate_left; (intro w h; (try dsimp only at h); go_simp; (try with_reducible rfl)); (try simp only [Act.put, Ord.a, Ord.b, Ord.c]))
      refine wpAnyH_ready (rs := [7]) (by kernel_rfl) (by simp) ?_
      refine (AllReadyH.cons rfl (fun K hK => ?_) AllReadyH.nil)
      obtain ⟨⟨r0, r1⟩, r2, r3⟩ := P5.two
      go_simp
      have hE' : Ext W2 ((V3.setCell ⟨V0.heap.size, 0, none⟩ (.int .i64 (nlX m fs 0))).setCell ⟨V0.heap.size, 1, none⟩ (.int .i64 (nlY m fs 0))) := ((hE.setNew (by first | omega | (simp; omega) | simp) _).setNew (by first | omega | (simp; omega) | simp) _)
      refine hK.out _ _ hE' (fun hHeld => ?_)
      clear hK K r0 r1 r2 r3
      (try simp only [Act.put, Ord.a, Ord.b, Ord.c])
      replace P5 := P5.set2 (u := .int .i64 (nlX m fs 0)) (v := .int .i64 (nlY m fs 0))
      replace hE := hE'
      clear hE'
      generalize ((V3.setCell ⟨V0.heap.size, 0, none⟩ (.int .i64 (nlX m fs 0))).setCell ⟨V0.heap.size, 1, none⟩ (.int .i64 (nlY m fs 0))) = V4 at *
      refine wpAnyH_done (by kernel_rfl) ?_ _
      go_wp2_with fail; go_meet; exact ⟨rfl, ⟨_, rfl, by omega, P5⟩, hE⟩
  case rest =>
    obtain ⟨rfl, ⟨B12, rfl, nB, P12⟩, X3⟩ := hcut
    have HP := Lib.hid P12
    have HX3 := Lib.hid X3
    clear P12 X3
    go_wp2
    go_loopw [11, 13] (fun o i wr => RelNt W2 B12 m fs o i wr) (fun o i _ => fs.length - 1 - (intOf i).toNat)
    case atStart => exact ⟨0, rfl, by omega, rfl, HP.out, HX3.out⟩
    case round =>
      obtain ⟨j, rfl, hj, rfl, hB, hx⟩ := hrel
      have HB := Lib.hid hB
      have HX := Lib.hid hx
      have c5 := e5 _ hx
      clear hB hx
      go_wp2_with fail
      refine (KC.out _ (HT.out.ext (X2.out.trans HX.out))).mono ?_
      rintro e w3 ⟨rfl, hy⟩
      have XY := Lib.hid (HX.out.trans hy)
      replace HB := Lib.hid (HB.out.ext hy)
      clear hy c5
      have T7 : IntKind.i64.wrap ((j : Int) + 1 + 1) = (j : Int) + 1 + 1 := IntWalk.i64_in _ (by omega)
      by_cases hj1 : j + 1 < fs.length - 1
      · have q1 : (j : Int) + 1 < ((fs.length - 1 : Nat) : Int) := by omega
        have q2 : decide ((j : Int) + 1 < ((fs.length - 1 : Nat) : Int)) = true := decide_eq_true q1
        go_upto_region 8 with fail
        have f5 : ∀ w', Ext w3 w' → w'.cell? ⟨w.heap.size + 1, 0, none⟩ = some (.slice at_ fs.length ct) := fun w' h => e5 _ (XY.out.trans h)
        have f91 : ∀ w', Ext w3 w' → w'.cell? ⟨w1.heap.size, 1, none⟩ = some (.int .i64 m.x) := fun w' h => e91 _ (XY.out.trans h)
        have f92 : ∀ w', Ext w3 w' → w'.cell? ⟨w1.heap.size, 2, none⟩ = some (.int .i64 m.y) := fun w' h => e92 _ (XY.out.trans h)
        have zB : B12 < w3.heap.size := HB.out.lt
        go_cut [14] (fun s wx => (∃ B, s = .pointer (some ⟨B, 0, none⟩) ∧ B12 < B ∧ Box wx B [.int .i64 (nlX m fs (j + 1)), .int .i64 (nlY m fs (j + 1))]) ∧ Ext w3 wx)
        case first =>
          refine wp_region_held_drew (S := fun w' => Ext w3 w') (by kernel_rfl) (by (try dsimp only); exact Ext.drew (Ext.refl w3)) (fun hHeld => ?_)
          have hE : Ext w3 w3.drew := Ext.drew (Ext.refl w3)
          obtain ⟨V0, hV0⟩ : ∃ V0, V0 = w3.drew := ⟨_, rfl⟩
          rw [← hV0] at hE hHeld ⊢
          clear hV0
          (refine Ord.k 0 38 (v := ?_) ?_ ?_; rotate_left; (intro w h; (try dsimp only at h); go_simp; (try with_reducible rfl)); (try simp only [Act.put, Ord.a, Ord.b, Ord.c])); (refine Ord.k 1 39 (v := ?_) ?_ ?_; rotate_left; (intro w h; (try dsimp only at h); go_simp; (try with_reducible rfl)); (try simp only [Act.put, Ord.a, Ord.b, Ord.c])); (refine Ord.k 3 41 (v := ?_) ?_ ?_; rotate_left; (intro w h; (try dsimp only at h); go_simp; (try with_reducible rfl)); (try simp only [Act.put, Ord.a, Ord.b, Ord.c])); (refine Ord.k 4 42 (v := ?_) ?_ ?_; rotate_left; (intro w h; (try dsimp only at h); go_simp; (try with_reducible rfl)); (try simp only [Act.put, Ord.a, Ord.b, Ord.c]))
          refine wpAnyH_ready (rs := [2, 6]) (by kernel_rfl) (by simp) ?_
          refine (AllReadyH.cons rfl (fun K hK => ?_) (AllReadyH.cons rfl (fun K hK => ?_) AllReadyH.nil))
          · go_simp
            go_at_call 86
            refine (KG.out (j + 1) _ (HT.out.ext (X2.out.trans (XY.out.trans hE))) (by omega)).mono ?_
            rintro e V1 ⟨rfl, hy⟩
            go_wp2_with fail
            have zy := Ext.size hy
            have hE' := hE.trans hy
            refine hK.out _ _ hE' (fun hHeld => ?_)
            clear hK K
            (try simp only [Act.put, Ord.a, Ord.b, Ord.c])
            replace hE := hE'
            clear hE' hy
            refine wpAnyH_ready (rs := [5, 6]) (by kernel_rfl) (by simp) ?_
            refine (AllReadyH.cons rfl (fun K hK => ?_) (AllReadyH.cons rfl (fun K hK => ?_) AllReadyH.nil))
            · go_simp
              go_at_call 87
              refine (KN.out (j + 1) _ (by omega)).mono ?_
              rintro e V2 ⟨rfl, hy⟩
              go_wp2_with fail
              have zy := Ext.size hy
              have hE' := hE.trans hy
              refine hK.out _ _ hE' (fun hHeld => ?_)
              clear hK K
              (try simp only [Act.put, Ord.a, Ord.b, Ord.c])
              replace hE := hE'
              clear hE' hy
              refine wpAnyH_ready (rs := [6]) (by kernel_rfl) (by simp) ?_
              refine (AllReadyH.cons rfl (fun K hK => ?_) AllReadyH.nil)
              go_simp
              have hy : Ext V2 (V2.alloc (.cells #[.int .i64 0, .int .i64 0] 25)) := (Ext.refl V2).alloc _
              have hE' := hE.trans hy
              refine hK.out _ _ hE' (fun hHeld => ?_)
              clear hK K
              (try simp only [Act.put, Ord.a, Ord.b, Ord.c])
              have P6 : Box (V2.alloc (.cells #[.int .i64 0, .int .i64 0] 25)) V2.heap.size [.int .i64 0, .int .i64 0] := Box.new (vs := [.int .i64 0, .int .i64 0]) rfl
              have z6 := Ext.size hE
              have y6 : V2.heap.size < (V2.alloc (.cells #[.int .i64 0, .int .i64 0] 25)).heap.size := by simp
              replace hE := hE'
              clear hE' hy
              generalize V2.alloc (.cells #[.int .i64 0, .int .i64 0] 25) = V3 at *
              refine wpAnyH_ready (rs := [7]) (by kernel_rfl) (by simp) ?_
              refine (AllReadyH.cons rfl (fun K hK => ?_) AllReadyH.nil)
              obtain ⟨⟨r0, r1⟩, r2, r3⟩ := P6.two
              go_simp
              have hE' : Ext w3 ((V3.setCell ⟨V2.heap.size, 0, none⟩ (.int .i64 (nlX m fs (j + 1)))).setCell ⟨V2.heap.size, 1, none⟩ (.int .i64 (nlY m fs (j + 1)))) := ((hE.setNew (by first | omega | (simp; omega) | simp) _).setNew (by first | omega | (simp; omega) | simp) _)
              refine hK.out _ _ hE' (fun hHeld => ?_)
              clear hK K r0 r1 r2 r3
              (try simp only [Act.put, Ord.a, Ord.b, Ord.c])
              replace P6 := P6.set2 (u := .int .i64 (nlX m fs (j + 1))) (v := .int .i64 (nlY m fs (j + 1)))
              replace hE := hE'
              clear hE'
              generalize ((V3.setCell ⟨V2.heap.size, 0, none⟩ (.int .i64 (nlX m fs (j + 1)))).setCell ⟨V2.heap.size, 1, none⟩ (.int .i64 (nlY m fs (j + 1)))) = V4 at *
              refine wpAnyH_done (by kernel_rfl) ?_ _
              go_wp2_with fail; go_meet; exact ⟨⟨_, rfl, by omega, P6⟩, hE⟩
            · go_simp
              have hy : Ext V1 (V1.alloc (.cells #[.int .i64 0, .int .i64 0] 25)) := (Ext.refl V1).alloc _
              have hE' := hE.trans hy
              refine hK.out _ _ hE' (fun hHeld => ?_)
              clear hK K
              (try simp only [Act.put, Ord.a, Ord.b, Ord.c])
              have P6 : Box (V1.alloc (.cells #[.int .i64 0, .int .i64 0] 25)) V1.heap.size [.int .i64 0, .int .i64 0] := Box.new (vs := [.int .i64 0, .int .i64 0]) rfl
              have z6 := Ext.size hE
              have y6 : V1.heap.size < (V1.alloc (.cells #[.int .i64 0, .int .i64 0] 25)).heap.size := by simp
              replace hE := hE'
              clear hE' hy
              generalize V1.alloc (.cells #[.int .i64 0, .int .i64 0] 25) = V2 at *
              refine wpAnyH_ready (rs := [5]) (by kernel_rfl) (by simp) ?_
              refine (AllReadyH.cons rfl (fun K hK => ?_) AllReadyH.nil)
              go_simp
              go_at_call 87
              refine (KN.out (j + 1) _ (by omega)).mono ?_
              rintro e V3 ⟨rfl, hy⟩
              go_wp2_with fail
              have zy := Ext.size hy
              have hE' := hE.trans hy
              refine hK.out _ _ hE' (fun hHeld => ?_)
              clear hK K
              (try simp only [Act.put, Ord.a, Ord.b, Ord.c])
              replace P6 := P6.ext hy
              replace hE := hE'
              clear hE' hy
              refine wpAnyH_ready (rs := [7]) (by kernel_rfl) (by simp) ?_
              refine (AllReadyH.cons rfl (fun K hK => ?_) AllReadyH.nil)
              obtain ⟨⟨r0, r1⟩, r2, r3⟩ := P6.two
              go_simp
              have hE' : Ext w3 ((V3.setCell ⟨V1.heap.size, 0, none⟩ (.int .i64 (nlX m fs (j + 1)))).setCell ⟨V1.heap.size, 1, none⟩ (.int .i64 (nlY m fs (j + 1)))) := ((hE.setNew (by first | omega | (simp; omega) | simp) _).setNew (by first | omega | (simp; omega) | simp) _)
              refine hK.out _ _ hE' (fun hHeld => ?_)
              clear hK K r0 r1 r2 r3
              (try simp only [Act.put, Ord.a, Ord.b, Ord.c])
              replace P6 := P6.set2 (u := .int .i64 (nlX m fs (j + 1))) (v := .int .i64 (nlY m fs (j + 1)))
              replace hE := hE'
              clear hE'
              generalize ((V3.setCell ⟨V1.heap.size, 0, none⟩ (.int .i64 (nlX m fs (j + 1)))).setCell ⟨V1.heap.size, 1, none⟩ (.int .i64 (nlY m fs (j + 1)))) = V4 at *
              refine wpAnyH_done (by kernel_rfl) ?_ _
              go_wp2_with fail; go_meet; exact ⟨⟨_, rfl, by omega, P6⟩, hE⟩
          · go_simp
            have hy : Ext V0 (V0.alloc (.cells #[.int .i64 0, .int .i64 0] 25)) := (Ext.refl V0).alloc _
            have hE' := hE.trans hy
            refine hK.out _ _ hE' (fun hHeld => ?_)
            clear hK K
            (try simp only [Act.put, Ord.a, Ord.b, Ord.c])
            have P6 : Box (V0.alloc (.cells #[.int .i64 0, .int .i64 0] 25)) V0.heap.size [.int .i64 0, .int .i64 0] := Box.new (vs := [.int .i64 0, .int .i64 0]) rfl
            have z6 := Ext.size hE
            have y6 : V0.heap.size < (V0.alloc (.cells #[.int .i64 0, .int .i64 0] 25)).heap.size := by simp
            replace hE := hE'
            clear hE' hy
            generalize V0.alloc (.cells #[.int .i64 0, .int .i64 0] 25) = V1 at *
            refine wpAnyH_ready (rs := [2]) (by kernel_rfl) (by simp) ?_
            refine (AllReadyH.cons rfl (fun K hK => ?_) AllReadyH.nil)
            go_simp
            go_at_call 86
            refine (KG.out (j + 1) _ (HT.out.ext (X2.out.trans (XY.out.trans hE))) (by omega)).mono ?_
            rintro e V2 ⟨rfl, hy⟩
            go_wp2_with fail
            have zy := Ext.size hy
            have hE' := hE.trans hy
            refine hK.out _ _ hE' (fun hHeld => ?_)
            clear hK K
            (try simp only [Act.put, Ord.a, Ord.b, Ord.c])
            replace P6 := P6.ext hy
            replace hE := hE'
            clear hE' hy
            refine wpAnyH_ready (rs := [5]) (by kernel_rfl) (by simp) ?_
            refine (AllReadyH.cons rfl (fun K hK => ?_) AllReadyH.nil)
            go_simp
            go_at_call 87
            refine (KN.out (j + 1) _ (by omega)).mono ?_
            rintro e V3 ⟨rfl, hy⟩
            go_wp2_with fail
            have zy := Ext.size hy
            have hE' := hE.trans hy
            refine hK.out _ _ hE' (fun hHeld => ?_)
            clear hK K
            (try simp only [Act.put, Ord.a, Ord.b, Ord.c])
            replace P6 := P6.ext hy
            replace hE := hE'
            clear hE' hy
            refine wpAnyH_ready (rs := [7]) (by kernel_rfl) (by simp) ?_
            refine (AllReadyH.cons rfl (fun K hK => ?_) AllReadyH.nil)
            obtain ⟨⟨r0, r1⟩, r2, r3⟩ := P6.two
            go_simp
            have hE' : Ext w3 ((V3.setCell ⟨V0.heap.size, 0, none⟩ (.int .i64 (nlX m fs (j + 1)))).setCell ⟨V0.heap.size, 1, none⟩ (.int .i64 (nlY m fs (j + 1)))) := ((hE.setNew (by first | omega | (simp; omega) | simp) _).setNew (by first | omega | (simp; omega) | simp) _)
            refine hK.out _ _ hE' (fun hHeld => ?_)
            clear hK K r0 r1 r2 r3
            (try simp only [Act.put, Ord.a, Ord.b, Ord.c])
            replace P6 := P6.set2 (u := .int .i64 (nlX m fs (j + 1))) (v := .int .i64 (nlY m fs (j + 1)))
            replace hE := hE'
            clear hE'
            generalize ((V3.setCell ⟨V0.heap.size, 0, none⟩ (.int .i64 (nlX m fs (j + 1)))).setCell ⟨V0.heap.size, 1, none⟩ (.int .i64 (nlY m fs (j + 1)))) = V4 at *
            refine wpAnyH_done (by kernel_rfl) ?_ _
            go_wp2_with fail; go_meet; exact ⟨⟨_, rfl, by omega, P6⟩, hE⟩
        case rest =>
          obtain ⟨⟨B14, rfl, nB2, P14⟩, X4⟩ := hcut
          have HB4 := Lib.hid (HB.out.ext X4)
          have HP4 := Lib.hid P14
          have XZ := Lib.hid (XY.out.trans X4)
          have K1 := Lib.hid (fun w' => KV.out (j + 1) w' (by omega))
          have K2 := Lib.hid (fun w' => KS.out (j + 1) w' (by omega))
          have le := nlK_le m fs j
          have K3 := Lib.hid (fun w' => KV.out (nlK m fs j) w' (by omega))
          have K4 := Lib.hid (fun w' => KS.out (nlK m fs j) w' (by omega))
          have NY := Lib.hid (fun h => nlK_yes (m := m) (fs := fs) (n := j) h)
          have NN := Lib.hid (fun h => nlK_no (m := m) (fs := fs) (n := j) h)
          clear P14 X4 f5 f91 f92
          obtain ⟨K, hK⟩ : ∃ K, K = nlK m fs j := ⟨_, rfl⟩
          rw [← hK] at K3 K4 HB4 NY NN
          have HK := Lib.hid hK
          simp only [← hK]
          obtain ⟨D1, hD1⟩ : ∃ D1, D1 = nlD m fs (j + 1) := ⟨_, rfl⟩
          obtain ⟨D2, hD2⟩ : ∃ D2, D2 = nlD m fs K := ⟨_, rfl⟩
          rw [← hD1] at K2 NY NN
          rw [← hD2] at K4 NY NN
          clear hK hD1 hD2 le
          have g91 : ∀ w', Ext wc w' → w'.cell? ⟨w1.heap.size, 1, none⟩ = some (.int .i64 m.x) := fun w' h => e91 _ (XZ.out.trans h)
          have g92 : ∀ w', Ext wc w' → w'.cell? ⟨w1.heap.size, 2, none⟩ = some (.int .i64 m.y) := fun w' h => e92 _ (XZ.out.trans h)
          have ga0 : ∀ w', Ext wc w' → w'.cell? ⟨B12, 0, none⟩ = some (.int .i64 (nlX m fs K)) := fun w' h => h.cellOf (HB4.out 0 _ rfl).1
          have ga1 : ∀ w', Ext wc w' → w'.cell? ⟨B12, 1, none⟩ = some (.int .i64 (nlY m fs K)) := fun w' h => h.cellOf (HB4.out 1 _ rfl).1
          have gb0 : ∀ w', Ext wc w' → w'.cell? ⟨B14, 0, none⟩ = some (.int .i64 (nlX m fs (j + 1))) := fun w' h => h.cellOf (HP4.out 0 _ rfl).1
          have gb1 : ∀ w', Ext wc w' → w'.cell? ⟨B14, 1, none⟩ = some (.int .i64 (nlY m fs (j + 1))) := fun w' h => h.cellOf (HP4.out 1 _ rfl).1
          have hr := Ext.refl wc
          go_upto_region 9 with fail
          by_cases hd : D1 < D2
          · have EK := Lib.hid (NY.out hd)
            have d1 : decide (D1 < D2) = true := decide_eq_true hd
            refine wp_region_held_drew (S := (fun w' => Ext wc w')) (by kernel_rfl) (by (try dsimp only); first | go_keep | exact (Ext.refl _).drew | exact Res.new2.drew | exact Res.new4.drew | exact ResB.drew (by assumption) | exact ResC.drew (by assumption) | assumption | exact Ext.drew (by assumption) | exact Res.drew (by assumption)) (fun hHeld => ?_)
            (refine Ord.k 0 44 (v := ?_) ?_ ?_; rotate_left; (intro w h; (try dsimp only at h); go_simp; (try with_reducible rfl)); (try simp only [Act.put, Ord.a, Ord.b, Ord.c]))
            (refine Ord.k 1 45 (v := ?_) ?_ ?_; rotate_left; (intro w h; (try dsimp only at h); go_simp; (try with_reducible rfl)); (try simp only [Act.put, Ord.a, Ord.b, Ord.c]))
            (refine Ord.k 2 46 (v := ?_) ?_ ?_; rotate_left; (intro w h; (try dsimp only at h); go_simp; (try with_reducible rfl)); (try simp only [Act.put, Ord.a, Ord.b, Ord.c]))
            (refine Ord.k 5 49 (v := ?_) ?_ ?_; rotate_left; (intro w h; (try dsimp only at h); go_simp; (try with_reducible rfl)); (try simp only [Act.put, Ord.a, Ord.b, Ord.c]))
            (refine Ord.k 6 50 (v := ?_) ?_ ?_; rotate_left; (intro w h; (try dsimp only at h); go_simp; (try with_reducible rfl)); (try simp only [Act.put, Ord.a, Ord.b, Ord.c]))
            (refine Ord.k 7 51 (v := ?_) ?_ ?_; rotate_left; (intro w h; (try dsimp only at h); go_simp; (try with_reducible rfl)); (try simp only [Act.put, Ord.a, Ord.b, Ord.c]))
            (refine wpAnyH_ready (rs := [3]) (by kernel_rfl) (by simp) ?_; refine AllReadyH.cons rfl (fun K hK => ?_) AllReadyH.nil; go_simp; (first | (go_at_call 77; with_reducible refine (K1.out _).mono ?_; rintro e w4 ⟨rfl, hy⟩) | (go_at_call 77; with_reducible refine (K3.out _).mono ?_; rintro e w4 ⟨rfl, hy⟩) | (go_at_call 81; with_reducible refine (K2.out _).mono ?_; rintro e w4 ⟨rfl, hy⟩) | (go_at_call 81; with_reducible refine (K4.out _).mono ?_; rintro e w4 ⟨rfl, hy⟩)); go_wp2_with fail; (refine hK.out _ _ (by first | assumption | exact Ext.trans (by assumption) hy | exact Res.ext (by assumption) hy | exact ResB.ext (by assumption) hy | exact ResC.ext (by assumption) hy | (go_split_ands; (repeat' apply And.intro) <;> exact Ext.cellOf hy (by assumption))) (fun hHeld => ?_)); clear hK K; (try simp only [Act.put, Ord.a, Ord.b, Ord.c]))
            (refine wpAnyH_ready (rs := [4]) (by kernel_rfl) (by simp) ?_; refine AllReadyH.cons rfl (fun K hK => ?_) AllReadyH.nil; go_simp; (first | (go_at_call 77; with_reducible refine (K1.out _).mono ?_; rintro e w4 ⟨rfl, hy⟩) | (go_at_call 77; with_reducible refine (K3.out _).mono ?_; rintro e w4 ⟨rfl, hy⟩) | (go_at_call 81; with_reducible refine (K2.out _).mono ?_; rintro e w4 ⟨rfl, hy⟩) | (go_at_call 81; with_reducible refine (K4.out _).mono ?_; rintro e w4 ⟨rfl, hy⟩)); go_wp2_with fail; (refine hK.out _ _ (by first | assumption | exact Ext.trans (by assumption) hy | exact Res.ext (by assumption) hy | exact ResB.ext (by assumption) hy | exact ResC.ext (by assumption) hy | (go_split_ands; (repeat' apply And.intro) <;> exact Ext.cellOf hy (by assumption))) (fun hHeld => ?_)); clear hK K; (try simp only [Act.put, Ord.a, Ord.b, Ord.c]))
            (refine wpAnyH_ready (rs := [8]) (by kernel_rfl) (by simp) ?_; refine AllReadyH.cons rfl (fun K hK => ?_) AllReadyH.nil; go_simp; (first | (go_at_call 77; with_reducible refine (K1.out _).mono ?_; rintro e w4 ⟨rfl, hy⟩) | (go_at_call 77; with_reducible refine (K3.out _).mono ?_; rintro e w4 ⟨rfl, hy⟩) | (go_at_call 81; with_reducible refine (K2.out _).mono ?_; rintro e w4 ⟨rfl, hy⟩) | (go_at_call 81; with_reducible refine (K4.out _).mono ?_; rintro e w4 ⟨rfl, hy⟩)); go_wp2_with fail; (refine hK.out _ _ (by first | assumption | exact Ext.trans (by assumption) hy | exact Res.ext (by assumption) hy | exact ResB.ext (by assumption) hy | exact ResC.ext (by assumption) hy | (go_split_ands; (repeat' apply And.intro) <;> exact Ext.cellOf hy (by assumption))) (fun hHeld => ?_)); clear hK K; (try simp only [Act.put, Ord.a, Ord.b, Ord.c]))
            (refine wpAnyH_ready (rs := [9]) (by kernel_rfl) (by simp) ?_; refine AllReadyH.cons rfl (fun K hK => ?_) AllReadyH.nil; go_simp; (first | (go_at_call 77; with_reducible refine (K1.out _).mono ?_; rintro e w4 ⟨rfl, hy⟩) | (go_at_call 77; with_reducible refine (K3.out _).mono ?_; rintro e w4 ⟨rfl, hy⟩) | (go_at_call 81; with_reducible refine (K2.out _).mono ?_; rintro e w4 ⟨rfl, hy⟩) | (go_at_call 81; with_reducible refine (K4.out _).mono ?_; rintro e w4 ⟨rfl, hy⟩)); go_wp2_with fail; (refine hK.out _ _ (by first | assumption | exact Ext.trans (by assumption) hy | exact Res.ext (by assumption) hy | exact ResB.ext (by assumption) hy | exact ResC.ext (by assumption) hy | (go_split_ands; (repeat' apply And.intro) <;> exact Ext.cellOf hy (by assumption))) (fun hHeld => ?_)); clear hK K; (try simp only [Act.put, Ord.a, Ord.b, Ord.c]))
            (refine Ord.k 10 54 (v := ?_) ?_ ?_; rotate_left; (intro w h; (try dsimp only at h); go_simp; (try with_reducible rfl)); (try simp only [Act.put, Ord.a, Ord.b, Ord.c]))
            refine wpAnyH_done (by kernel_rfl) ?_ _
            have hz : Ext wc _ := hHeld
            have HB5 := Lib.hid (HB4.out.ext hz)
            have XW := Lib.hid (XZ.out.trans hz)
            have b0 := gb0 _ hz
            have b1 := gb1 _ hz
            obtain ⟨⟨a0, a1⟩, s0, s1⟩ := HB5.out.two
            clear hz g91 g92 ga0 ga1 gb0 gb1 hHeld
            go_wp2
            go_region
            go_wp2
            go_roundw
            case rel => exact ⟨j + 1, by go_num, by omega, by rw [EK.out]; go_num, by rw [EK.out]; exact (HB5.out.set2 (u := .int .i64 (nlX m fs (j + 1))) (v := .int .i64 (nlY m fs (j + 1)))).drew, ((XW.out.setNew (p := ⟨B12, 0, none⟩) nB _).setNew (p := ⟨B12, 1, none⟩) nB _).drew⟩
            case measure => simp [intOf]; omega
          · have EK := Lib.hid ((NN.out (by omega)).trans HK.out)
            have d1 : decide (D1 < D2) = false := decide_eq_false hd
            refine wp_region_held_drew (S := (fun w' => Ext wc w')) (by kernel_rfl) (by (try dsimp only); first | go_keep | exact (Ext.refl _).drew | exact Res.new2.drew | exact Res.new4.drew | exact ResB.drew (by assumption) | exact ResC.drew (by assumption) | assumption | exact Ext.drew (by assumption) | exact Res.drew (by assumption)) (fun hHeld => ?_)
            (refine Ord.k 0 44 (v := ?_) ?_ ?_; rotate_left; (intro w h; (try dsimp only at h); go_simp; (try with_reducible rfl)); (try simp only [Act.put, Ord.a, Ord.b, Ord.c]))
            (refine Ord.k 1 45 (v := ?_) ?_ ?_; rotate_left; (intro w h; (try dsimp only at h); go_simp; (try with_reducible rfl)); (try simp only [Act.put, Ord.a, Ord.b, Ord.c]))
            (refine Ord.k 2 46 (v := ?_) ?_ ?_; rotate_left; (intro w h; (try dsimp only at h); go_simp; (try with_reducible rfl)); (try simp only [Act.put, Ord.a, Ord.b, Ord.c]))
            (refine Ord.k 5 49 (v := ?_) ?_ ?_; rotate_left; (intro w h; (try dsimp only at h); go_simp; (try with_reducible rfl)); (try simp only [Act.put, Ord.a, Ord.b, Ord.c]))
            (refine Ord.k 6 50 (v := ?_) ?_ ?_; rotate_left; (intro w h; (try dsimp only at h); go_simp; (try with_reducible rfl)); (try simp only [Act.put, Ord.a, Ord.b, Ord.c]))
            (refine Ord.k 7 51 (v := ?_) ?_ ?_; rotate_left; (intro w h; (try dsimp only at h); go_simp; (try with_reducible rfl)); (try simp only [Act.put, Ord.a, Ord.b, Ord.c]))
            (refine wpAnyH_ready (rs := [3]) (by kernel_rfl) (by simp) ?_; refine AllReadyH.cons rfl (fun K hK => ?_) AllReadyH.nil; go_simp; (first | (go_at_call 77; with_reducible refine (K1.out _).mono ?_; rintro e w4 ⟨rfl, hy⟩) | (go_at_call 77; with_reducible refine (K3.out _).mono ?_; rintro e w4 ⟨rfl, hy⟩) | (go_at_call 81; with_reducible refine (K2.out _).mono ?_; rintro e w4 ⟨rfl, hy⟩) | (go_at_call 81; with_reducible refine (K4.out _).mono ?_; rintro e w4 ⟨rfl, hy⟩)); go_wp2_with fail; (refine hK.out _ _ (by first | assumption | exact Ext.trans (by assumption) hy | exact Res.ext (by assumption) hy | exact ResB.ext (by assumption) hy | exact ResC.ext (by assumption) hy | (go_split_ands; (repeat' apply And.intro) <;> exact Ext.cellOf hy (by assumption))) (fun hHeld => ?_)); clear hK K; (try simp only [Act.put, Ord.a, Ord.b, Ord.c]))
            (refine wpAnyH_ready (rs := [4]) (by kernel_rfl) (by simp) ?_; refine AllReadyH.cons rfl (fun K hK => ?_) AllReadyH.nil; go_simp; (first | (go_at_call 77; with_reducible refine (K1.out _).mono ?_; rintro e w4 ⟨rfl, hy⟩) | (go_at_call 77; with_reducible refine (K3.out _).mono ?_; rintro e w4 ⟨rfl, hy⟩) | (go_at_call 81; with_reducible refine (K2.out _).mono ?_; rintro e w4 ⟨rfl, hy⟩) | (go_at_call 81; with_reducible refine (K4.out _).mono ?_; rintro e w4 ⟨rfl, hy⟩)); go_wp2_with fail; (refine hK.out _ _ (by first | assumption | exact Ext.trans (by assumption) hy | exact Res.ext (by assumption) hy | exact ResB.ext (by assumption) hy | exact ResC.ext (by assumption) hy | (go_split_ands; (repeat' apply And.intro) <;> exact Ext.cellOf hy (by assumption))) (fun hHeld => ?_)); clear hK K; (try simp only [Act.put, Ord.a, Ord.b, Ord.c]))
            (refine wpAnyH_ready (rs := [8]) (by kernel_rfl) (by simp) ?_; refine AllReadyH.cons rfl (fun K hK => ?_) AllReadyH.nil; go_simp; (first | (go_at_call 77; with_reducible refine (K1.out _).mono ?_; rintro e w4 ⟨rfl, hy⟩) | (go_at_call 77; with_reducible refine (K3.out _).mono ?_; rintro e w4 ⟨rfl, hy⟩) | (go_at_call 81; with_reducible refine (K2.out _).mono ?_; rintro e w4 ⟨rfl, hy⟩) | (go_at_call 81; with_reducible refine (K4.out _).mono ?_; rintro e w4 ⟨rfl, hy⟩)); go_wp2_with fail; (refine hK.out _ _ (by first | assumption | exact Ext.trans (by assumption) hy | exact Res.ext (by assumption) hy | exact ResB.ext (by assumption) hy | exact ResC.ext (by assumption) hy | (go_split_ands; (repeat' apply And.intro) <;> exact Ext.cellOf hy (by assumption))) (fun hHeld => ?_)); clear hK K; (try simp only [Act.put, Ord.a, Ord.b, Ord.c]))
            (refine wpAnyH_ready (rs := [9]) (by kernel_rfl) (by simp) ?_; refine AllReadyH.cons rfl (fun K hK => ?_) AllReadyH.nil; go_simp; (first | (go_at_call 77; with_reducible refine (K1.out _).mono ?_; rintro e w4 ⟨rfl, hy⟩) | (go_at_call 77; with_reducible refine (K3.out _).mono ?_; rintro e w4 ⟨rfl, hy⟩) | (go_at_call 81; with_reducible refine (K2.out _).mono ?_; rintro e w4 ⟨rfl, hy⟩) | (go_at_call 81; with_reducible refine (K4.out _).mono ?_; rintro e w4 ⟨rfl, hy⟩)); go_wp2_with fail; (refine hK.out _ _ (by first | assumption | exact Ext.trans (by assumption) hy | exact Res.ext (by assumption) hy | exact ResB.ext (by assumption) hy | exact ResC.ext (by assumption) hy | (go_split_ands; (repeat' apply And.intro) <;> exact Ext.cellOf hy (by assumption))) (fun hHeld => ?_)); clear hK K; (try simp only [Act.put, Ord.a, Ord.b, Ord.c]))
            (refine Ord.k 10 54 (v := ?_) ?_ ?_; rotate_left; (intro w h; (try dsimp only at h); go_simp; (try with_reducible rfl)); (try simp only [Act.put, Ord.a, Ord.b, Ord.c]))
            refine wpAnyH_done (by kernel_rfl) ?_ _
            have hz : Ext wc _ := hHeld
            have HB5 := Lib.hid (HB4.out.ext hz)
            have XW := Lib.hid (XZ.out.trans hz)
            clear hz g91 g92 ga0 ga1 gb0 gb1 hHeld
            go_wp2
            go_roundw
            case rel => exact ⟨j + 1, by go_num, by omega, by rw [EK.out, HK.out], by rw [EK.out, ← HK.out]; exact HB5.out, XW.out⟩
            case measure => simp [intOf]; omega
      · obtain rfl : j = fs.length - 2 := by omega
        have q1 : ¬ (((fs.length - 2 : Nat) : Int) + 1 < ((fs.length - 1 : Nat) : Int)) := by omega
        have q2 : decide (((fs.length - 2 : Nat) : Int) + 1 < ((fs.length - 1 : Nat) : Int)) = false := decide_eq_false q1
        have HR := Lib.hid (BR.out.ext (X2.out.trans XY.out))
        obtain ⟨⟨r0, r1⟩, s0, s1⟩ := HR.out.two
        obtain ⟨⟨a0, a1⟩, _⟩ := HB.out.two
        go_wp2
        go_region
        go_wp2
        obtain ⟨q1, q2⟩ := put2_box (HW.out.trans (X2.out.trans XY.out)) (show w.heap.size ≤ w.heap.size + 1 + 1 by omega) HR.out (nlX m fs (nlK m fs (fs.length - 2))) (nlY m fs (nlK m fs (fs.length - 2)))
        exact nti_done q2.drew q1.drew rfl rfl rfl HY.out.1.1 HY.out.1.2.1 HY.out.1.2.2 HY.out.2
set_option maxRecDepth 100000 in
set_option maxHeartbeats 16000000 in
theorem nearestOnTrack_spec (l k : L4) (a : Option Addr) (cap : Nat) (ms : List M5) (n : Int) (at_ : Option Addr) (ct : Nat) (fs : List F3) (w : World) (hf : Mks w a ms) (ht : Fxs w at_ fs) :
    Calls Tryz.prog 31 #[CV l k (.slice a ms.length cap), .int .i64 n, Tr (.slice at_ fs.length ct)] w fun e w' => e = .returned (.tuple #[.int .i64 (ntV l k ms fs n), Pt (ntX l k ms fs n) (ntY l k ms fs n), .int .i64 (mfC l k ms (trB fs) n)]) ∧ Ext w w' := by
  obtain ⟨W0, hW0⟩ : ∃ W0, W0 = ((w.alloc (.cells (cellsC l k (.slice a ms.length cap)).toArray 30)).alloc (.cells #[.slice at_ fs.length ct] 33)).alloc (.cells #[.int .i64 0, .int .i64 0] 25) := ⟨_, rfl⟩
  have HW := Lib.hid (show Ext w W0 from hW0 ▸ (((Ext.refl w).alloc _).alloc _).alloc _)
  have BB := Lib.hid (show Box W0 w.heap.size (cellsC l k (.slice a ms.length cap)) from hW0 ▸ ((Box.new rfl).alloc _).alloc _)
  have ctt : W0.cell? ⟨w.heap.size + 1, 0, none⟩ = some (.slice at_ fs.length ct) := hW0 ▸ ((Ext.refl _).alloc _).cellOf (boxed 0 rfl (by simp))
  have CT := Lib.hid ctt
  have BR := Lib.hid (show Box W0 (w.heap.size + 1 + 1) [.int .i64 0, .int .i64 0] from hW0 ▸ Box.new2 (by simp))
  have HF := Lib.hid (hf.ext HW.out)
  have HT := Lib.hid (ht.ext HW.out)
  have zW : W0.heap.size = w.heap.size + 1 + 1 + 1 := by rw [hW0]; simp
  clear hf ht ctt
  have KL := Lib.hid (l07Code_spec l k a cap ms n at_ ct fs W0 HF.out HT.out)
  by_cases g : mfC l k ms (trB fs) n = 0
  rotate_left
  · have HY := Lib.hid (nt_bad g)
    have g1 : (mfC l k ms (trB fs) n != 0) = true := by simp [g]
    have g2 : (mfC l k ms (trB fs) n == 0) = false := beq_eq_false_iff_ne.2 g
    obtain ⟨C, hC⟩ : ∃ C, C = mfC l k ms (trB fs) n := ⟨_, rfl⟩
    have HC := Lib.hid hC
    rw [← hC] at KL g1 g2
    clear g hC
    go_enter Tryz.func31, Tryz.ntmps31
    go_wp2_with fail
    rw [← hW0]
    clear hW0
    refine KL.out.mono ?_
    rintro e w1 ⟨rfl, hx⟩
    have BR2 := BR.out.ext hx
    obtain ⟨⟨r0, r1⟩, s0, s1⟩ := BR2.two
    go_wp2
    obtain ⟨q1, q2⟩ := put2_box (HW.out.trans hx) (show w.heap.size ≤ w.heap.size + 1 + 1 by omega) BR2 0 0
    exact nts_done q2 q1 rfl rfl rfl HY.out.1 HY.out.2.1 HY.out.2.2 HC.out.symm
  obtain ⟨hq, hv, hn⟩ := mf_zero g
  obtain ⟨i, rfl⟩ : ∃ i : Nat, n = i := ⟨n.toNat, by omega⟩
  have hi : i < ms.length := by omega
  have hm := cr_mk hq hi
  obtain ⟨⟨h2, h40⟩, hok⟩ := Trk.trB_yes hv
  have HY := Lib.hid (And.intro (nt_yes g) g)
  rw [g] at KL
  obtain ⟨b, off, rfl, hb⟩ := HF.out.row (by omega)
  obtain ⟨k0, k1, k2, k3, k4⟩ := hb i hi
  obtain ⟨m, hmm⟩ : ∃ m, m = mk ms i := ⟨_, rfl⟩
  rw [← hmm] at HY hm k0 k1 k2 k3 k4
  obtain ⟨⟨mx, my⟩, _⟩ := mk_yes hm
  have HCo := Lib.hid (fun i (hi : i < fs.length) => (Trk.fxB_yes (Trk.okB_fx (hok i hi))).2)
  have KN := Lib.hid (fun (i : Nat) w' h (hi : i + 1 < fs.length) => l07Near_spec m at_ ct fs i w' h hi hv hm)
  have NC := Lib.hid (fun (i : Nat) (hi : i + 1 < fs.length) => np_Co (p := m.x) (q := m.y) (HCo.out i (by omega)).1 (HCo.out i (by omega)).2 (HCo.out (i + 1) hi).1 (HCo.out (i + 1) hi).2)
  have KS := Lib.hid (fun (i : Nat) w' (hi : i + 1 < fs.length) => show Calls Tryz.prog 75 #[Pt (nlX m fs i) (nlY m fs i), Pt m.x m.y] w' (fun e w'' => e = .returned (.int .i64 (nlD m fs i)) ∧ Ext w' w'') from square_any (nlX m fs i) (nlY m fs i) m.x m.y w' (NC.out i hi).1 (NC.out i hi).2 mx my)
  clear hmm g hq hv hn hm hok mx my NC HCo hb
  have r0 : (0 : Int) ≤ (i : Int) := by omega
  have r1 : (i : Int) < (ms.length : Int) := by omega
  go_enter Tryz.func31, Tryz.ntmps31
  go_wp2_with fail
  rw [← hW0]
  clear hW0
  refine KL.out.mono ?_
  rintro e w1 ⟨rfl, hx⟩
  obtain ⟨⟨p0, p1, p2, p3, p4, p5, p6, p7, p8⟩, _⟩ := Box.nine (BB.out.ext hx)
  replace k1 := hx.cellOf k1
  replace k2 := hx.cellOf k2
  obtain ⟨W2, hW2⟩ : ∃ W2, W2 = w1.alloc (.cells #[.int .i64 m.x, .int .i64 m.y] 25) := ⟨_, rfl⟩
  have h2' : Ext w1 W2 := hW2 ▸ (Ext.refl w1).alloc _
  have BM := Lib.hid (show Box W2 w1.heap.size [.int .i64 m.x, .int .i64 m.y] from hW2 ▸ Box.new rfl)
  have X2 := Lib.hid (hx.trans h2')
  have zz : w.heap.size + 1 + 1 < W2.heap.size := by have := Ext.size X2.out; omega
  have zw : w1.heap.size < W2.heap.size := by rw [hW2]; simp
  have zv : w.heap.size + 1 + 1 < w1.heap.size := by have := Ext.size hx; omega
  have e5 : ∀ w', Ext W2 w' → w'.cell? ⟨w.heap.size + 1, 0, none⟩ = some (.slice at_ fs.length ct) := fun w' h => h.cellOf (X2.out.cellOf CT.out)
  have e90 : ∀ w', Ext W2 w' → w'.cell? ⟨w1.heap.size, 0, none⟩ = some (.int .i64 m.x) := fun w' h => h.cellOf (BM.out 0 _ rfl).1
  have e91 : ∀ w', Ext W2 w' → w'.cell? ⟨w1.heap.size, 1, none⟩ = some (.int .i64 m.y) := fun w' h => h.cellOf (BM.out 1 _ rfl).1
  have c9 : ∀ A, (w1.alloc A).cell? ⟨w.heap.size + 1, 0, none⟩ = some (.slice at_ fs.length ct) := fun A => ((Ext.refl w1).alloc A).cellOf (hx.cellOf CT.out)
  have K0 := Lib.hid (KN.out 0 W2 (HT.out.ext X2.out) (by omega))
  clear hx h2'
  go_wp2_with fail
  rw [← hW2]
  clear hW2 c9 p0 p1 p2 p3 p4 p5 p6 p7 p8 k0 k1 k2 k3 k4
  refine K0.out.mono ?_
  rintro e w3 ⟨rfl, hy⟩
  have HP := Lib.hid (show Box (w3.alloc (.cells #[.int .i64 (nlX m fs 0), .int .i64 (nlY m fs 0)] 25)) w3.heap.size [.int .i64 (nlX m fs 0), .int .i64 (nlY m fs 0)] from Box.new2 rfl)
  have HX3 := Lib.hid (hy.alloc (.cells #[.int .i64 (nlX m fs 0), .int .i64 (nlY m fs 0)] 25))
  have nB := Ext.size hy
  clear hy
  go_wp2
  go_loopw [11, 13] (fun o i wr => RelNt W2 w3.heap.size m fs o i wr) (fun o i _ => fs.length - 1 - (intOf i).toNat)
  case atStart => exact ⟨0, rfl, by omega, rfl, HP.out, HX3.out⟩
  case round =>
    obtain ⟨j, rfl, hj, rfl, hB, hx⟩ := hrel
    have HB := Lib.hid hB
    have HX := Lib.hid hx
    have c5 := e5 _ hx
    have c90 := e90 _ hx
    have c91 := e91 _ hx
    clear hB hx
    have T7 : IntKind.i64.wrap ((j : Int) + 1 + 1) = (j : Int) + 1 + 1 := IntWalk.i64_in _ (by omega)
    by_cases hj1 : j + 1 < fs.length - 1
    · have q1 : (j : Int) + 1 + 1 < (fs.length : Int) := by omega
      have q2 : decide ((j : Int) + 1 + 1 < (fs.length : Int)) = true := decide_eq_true q1
      have KJ := Lib.hid (KN.out (j + 1) wr (HT.out.ext (X2.out.trans HX.out)) (by omega))
      go_wp2_with fail
      refine KJ.out.mono ?_
      rintro e w4 ⟨rfl, hy⟩
      obtain ⟨W5, hW5⟩ : ∃ W5, W5 = w4.alloc (.cells #[.int .i64 (nlX m fs (j + 1)), .int .i64 (nlY m fs (j + 1))] 25) := ⟨_, rfl⟩
      have h5 : Ext wr W5 := hW5 ▸ hy.alloc _
      have HB4 := Lib.hid (HB.out.ext h5)
      have HP4 := Lib.hid (show Box W5 w4.heap.size [.int .i64 (nlX m fs (j + 1)), .int .i64 (nlY m fs (j + 1))] from hW5 ▸ Box.new2 rfl)
      have XZ := Lib.hid (HX.out.trans h5)
      have n5 : w3.heap.size < w4.heap.size := by have h8 := Ext.size hy; have h9 := HB.out.lt; omega
      have K2 := Lib.hid (fun w' => KS.out (j + 1) w' (by omega))
      have le := nlK_le m fs j
      have K4 := Lib.hid (fun w' => KS.out (nlK m fs j) w' (by omega))
      have NY := Lib.hid (fun h => nlK_yes (m := m) (fs := fs) (n := j) h)
      have NN := Lib.hid (fun h => nlK_no (m := m) (fs := fs) (n := j) h)
      clear hy h5 c5 c90 c91
      go_upto_region 10 with fail
      rw [← hW5]
      clear hW5
      obtain ⟨K, hK⟩ : ∃ K, K = nlK m fs j := ⟨_, rfl⟩
      rw [← hK] at K4 HB4 NY NN
      have HK := Lib.hid hK
      simp only [← hK]
      obtain ⟨D1, hD1⟩ : ∃ D1, D1 = nlD m fs (j + 1) := ⟨_, rfl⟩
      obtain ⟨D2, hD2⟩ : ∃ D2, D2 = nlD m fs K := ⟨_, rfl⟩
      rw [← hD1] at K2 NY NN
      rw [← hD2] at K4 NY NN
      clear hK hD1 hD2 le
      have g90 : ∀ w', Ext W5 w' → w'.cell? ⟨w1.heap.size, 0, none⟩ = some (.int .i64 m.x) := fun w' h => e90 _ (XZ.out.trans h)
      have g91 : ∀ w', Ext W5 w' → w'.cell? ⟨w1.heap.size, 1, none⟩ = some (.int .i64 m.y) := fun w' h => e91 _ (XZ.out.trans h)
      have ga0 : ∀ w', Ext W5 w' → w'.cell? ⟨w3.heap.size, 0, none⟩ = some (.int .i64 (nlX m fs K)) := fun w' h => h.cellOf (HB4.out 0 _ rfl).1
      have ga1 : ∀ w', Ext W5 w' → w'.cell? ⟨w3.heap.size, 1, none⟩ = some (.int .i64 (nlY m fs K)) := fun w' h => h.cellOf (HB4.out 1 _ rfl).1
      have gb0 : ∀ w', Ext W5 w' → w'.cell? ⟨w4.heap.size, 0, none⟩ = some (.int .i64 (nlX m fs (j + 1))) := fun w' h => h.cellOf (HP4.out 0 _ rfl).1
      have gb1 : ∀ w', Ext W5 w' → w'.cell? ⟨w4.heap.size, 1, none⟩ = some (.int .i64 (nlY m fs (j + 1))) := fun w' h => h.cellOf (HP4.out 1 _ rfl).1
      have hr := Ext.refl W5
      by_cases hd : D1 < D2
      · have EK := Lib.hid (NY.out hd)
        have d1 : decide (D1 < D2) = true := decide_eq_true hd
        refine wp_region_held_drew (S := (fun w' => Ext W5 w')) (by kernel_rfl) (by (try dsimp only); first | go_keep | exact (Ext.refl _).drew | exact Res.new2.drew | exact Res.new4.drew | exact ResB.drew (by assumption) | exact ResC.drew (by assumption) | assumption | exact Ext.drew (by assumption) | exact Res.drew (by assumption)) (fun hHeld => ?_)
        (refine Ord.k 0 44 (v := ?_) ?_ ?_; rotate_left; (intro w h; (try dsimp only at h); go_simp; (try with_reducible rfl)); (try simp only [Act.put, Ord.a, Ord.b, Ord.c]))
        (refine Ord.k 1 45 (v := ?_) ?_ ?_; rotate_left; (intro w h; (try dsimp only at h); go_simp; (try with_reducible rfl)); (try simp only [Act.put, Ord.a, Ord.b, Ord.c]))
        (refine Ord.k 3 47 (v := ?_) ?_ ?_; rotate_left; (intro w h; (try dsimp only at h); go_simp; (try with_reducible rfl)); (try simp only [Act.put, Ord.a, Ord.b, Ord.c]))
        (refine Ord.k 4 48 (v := ?_) ?_ ?_; rotate_left; (intro w h; (try dsimp only at h); go_simp; (try with_reducible rfl)); (try simp only [Act.put, Ord.a, Ord.b, Ord.c]))
        (refine wpAnyH_ready (rs := [2]) (by kernel_rfl) (by simp) ?_; refine AllReadyH.cons rfl (fun K hK => ?_) AllReadyH.nil; go_simp; (first | (go_at_call 75; with_reducible refine (K2.out _).mono ?_; rintro e w6 ⟨rfl, hy⟩) | (go_at_call 75; with_reducible refine (K4.out _).mono ?_; rintro e w6 ⟨rfl, hy⟩)); go_wp2_with fail; (refine hK.out _ _ (by first | assumption | exact Ext.trans (by assumption) hy | exact Res.ext (by assumption) hy | exact ResB.ext (by assumption) hy | exact ResC.ext (by assumption) hy | (go_split_ands; (repeat' apply And.intro) <;> exact Ext.cellOf hy (by assumption))) (fun hHeld => ?_)); clear hK K; (try simp only [Act.put, Ord.a, Ord.b, Ord.c]))
        (refine wpAnyH_ready (rs := [5]) (by kernel_rfl) (by simp) ?_; refine AllReadyH.cons rfl (fun K hK => ?_) AllReadyH.nil; go_simp; (first | (go_at_call 75; with_reducible refine (K2.out _).mono ?_; rintro e w6 ⟨rfl, hy⟩) | (go_at_call 75; with_reducible refine (K4.out _).mono ?_; rintro e w6 ⟨rfl, hy⟩)); go_wp2_with fail; (refine hK.out _ _ (by first | assumption | exact Ext.trans (by assumption) hy | exact Res.ext (by assumption) hy | exact ResB.ext (by assumption) hy | exact ResC.ext (by assumption) hy | (go_split_ands; (repeat' apply And.intro) <;> exact Ext.cellOf hy (by assumption))) (fun hHeld => ?_)); clear hK K; (try simp only [Act.put, Ord.a, Ord.b, Ord.c]))
        (refine Ord.k 6 50 (v := ?_) ?_ ?_; rotate_left; (intro w h; (try dsimp only at h); go_simp; (try with_reducible rfl)); (try simp only [Act.put, Ord.a, Ord.b, Ord.c]))
        refine wpAnyH_done (by kernel_rfl) ?_ _
        have hz : Ext W5 _ := hHeld
        have HB5 := Lib.hid (HB4.out.ext hz)
        have XW := Lib.hid (XZ.out.trans hz)
        have b0 := gb0 _ hz
        have b1 := gb1 _ hz
        obtain ⟨⟨a0, a1⟩, s0, s1⟩ := HB5.out.two
        clear hz g90 g91 ga0 ga1 gb0 gb1 hHeld
        go_wp2
        go_roundw
        case rel => exact ⟨j + 1, by go_num, by omega, by rw [EK.out]; go_num, by rw [EK.out]; exact HB5.out.set2 (u := .int .i64 (nlX m fs (j + 1))) (v := .int .i64 (nlY m fs (j + 1))), (XW.out.setNew (p := ⟨w3.heap.size, 0, none⟩) nB _).setNew (p := ⟨w3.heap.size, 1, none⟩) nB _⟩
        case measure => simp [intOf]; omega
      · have EK := Lib.hid ((NN.out (by omega)).trans HK.out)
        have d1 : decide (D1 < D2) = false := decide_eq_false hd
        refine wp_region_held_drew (S := (fun w' => Ext W5 w')) (by kernel_rfl) (by (try dsimp only); first | go_keep | exact (Ext.refl _).drew | exact Res.new2.drew | exact Res.new4.drew | exact ResB.drew (by assumption) | exact ResC.drew (by assumption) | assumption | exact Ext.drew (by assumption) | exact Res.drew (by assumption)) (fun hHeld => ?_)
        (refine Ord.k 0 44 (v := ?_) ?_ ?_; rotate_left; (intro w h; (try dsimp only at h); go_simp; (try with_reducible rfl)); (try simp only [Act.put, Ord.a, Ord.b, Ord.c]))
        (refine Ord.k 1 45 (v := ?_) ?_ ?_; rotate_left; (intro w h; (try dsimp only at h); go_simp; (try with_reducible rfl)); (try simp only [Act.put, Ord.a, Ord.b, Ord.c]))
        (refine Ord.k 3 47 (v := ?_) ?_ ?_; rotate_left; (intro w h; (try dsimp only at h); go_simp; (try with_reducible rfl)); (try simp only [Act.put, Ord.a, Ord.b, Ord.c]))
        (refine Ord.k 4 48 (v := ?_) ?_ ?_; rotate_left; (intro w h; (try dsimp only at h); go_simp; (try with_reducible rfl)); (try simp only [Act.put, Ord.a, Ord.b, Ord.c]))
        (refine wpAnyH_ready (rs := [2]) (by kernel_rfl) (by simp) ?_; refine AllReadyH.cons rfl (fun K hK => ?_) AllReadyH.nil; go_simp; (first | (go_at_call 75; with_reducible refine (K2.out _).mono ?_; rintro e w6 ⟨rfl, hy⟩) | (go_at_call 75; with_reducible refine (K4.out _).mono ?_; rintro e w6 ⟨rfl, hy⟩)); go_wp2_with fail; (refine hK.out _ _ (by first | assumption | exact Ext.trans (by assumption) hy | exact Res.ext (by assumption) hy | exact ResB.ext (by assumption) hy | exact ResC.ext (by assumption) hy | (go_split_ands; (repeat' apply And.intro) <;> exact Ext.cellOf hy (by assumption))) (fun hHeld => ?_)); clear hK K; (try simp only [Act.put, Ord.a, Ord.b, Ord.c]))
        (refine wpAnyH_ready (rs := [5]) (by kernel_rfl) (by simp) ?_; refine AllReadyH.cons rfl (fun K hK => ?_) AllReadyH.nil; go_simp; (first | (go_at_call 75; with_reducible refine (K2.out _).mono ?_; rintro e w6 ⟨rfl, hy⟩) | (go_at_call 75; with_reducible refine (K4.out _).mono ?_; rintro e w6 ⟨rfl, hy⟩)); go_wp2_with fail; (refine hK.out _ _ (by first | assumption | exact Ext.trans (by assumption) hy | exact Res.ext (by assumption) hy | exact ResB.ext (by assumption) hy | exact ResC.ext (by assumption) hy | (go_split_ands; (repeat' apply And.intro) <;> exact Ext.cellOf hy (by assumption))) (fun hHeld => ?_)); clear hK K; (try simp only [Act.put, Ord.a, Ord.b, Ord.c]))
        (refine Ord.k 6 50 (v := ?_) ?_ ?_; rotate_left; (intro w h; (try dsimp only at h); go_simp; (try with_reducible rfl)); (try simp only [Act.put, Ord.a, Ord.b, Ord.c]))
        refine wpAnyH_done (by kernel_rfl) ?_ _
        have hz : Ext W5 _ := hHeld
        have HB5 := Lib.hid (HB4.out.ext hz)
        have XW := Lib.hid (XZ.out.trans hz)
        clear hz g90 g91 ga0 ga1 gb0 gb1 hHeld
        go_wp2
        go_roundw
        case rel => exact ⟨j + 1, by go_num, by omega, by rw [EK.out, HK.out], by rw [EK.out, ← HK.out]; exact HB5.out, XW.out⟩
        case measure => simp [intOf]; omega
    · obtain rfl : j = fs.length - 2 := by omega
      have q1 : ¬ (((fs.length - 2 : Nat) : Int) + 1 + 1 < (fs.length : Int)) := by omega
      have q2 : decide (((fs.length - 2 : Nat) : Int) + 1 + 1 < (fs.length : Int)) = false := decide_eq_false q1
      have HR := Lib.hid (BR.out.ext (X2.out.trans HX.out))
      obtain ⟨⟨r0, r1⟩, s0, s1⟩ := HR.out.two
      obtain ⟨⟨a0, a1⟩, _⟩ := HB.out.two
      go_wp2
      go_region
      go_wp2
      obtain ⟨q1, q2⟩ := put2_box (HW.out.trans (X2.out.trans HX.out)) (show w.heap.size ≤ w.heap.size + 1 + 1 by omega) HR.out (nlX m fs (nlK m fs (fs.length - 2))) (nlY m fs (nlK m fs (fs.length - 2)))
      exact nts_done q2.drew q1.drew rfl rfl rfl HY.out.1.1 HY.out.1.2.1 HY.out.1.2.2 HY.out.2
end Go.Proofs.YtplbahdomjeekaaGreat.Crs
