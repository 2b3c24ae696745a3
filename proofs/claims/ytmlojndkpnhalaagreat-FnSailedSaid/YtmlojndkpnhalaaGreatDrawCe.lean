import Derived.Test.YtmlojndkpnhalaaGreatDrawCd
import Derived.Test.YtmlojndkpnhalaaGreatTxtN
namespace Go.Proofs.YtmlojndkpnhalaaGreat.Crs
open Go.ChangeShapes Go.WideShapes Go.ChangeAt Go.RowKit
open Go.Proofs.YtmlojndkpnhalaaGreat.Num Go.Proofs.YtmlojndkpnhalaaGreat.Kit Go.Proofs.YtmlojndkpnhalaaGreat.Pts Go.Proofs.YtmlojndkpnhalaaGreat.Seg Go.Proofs.YtmlojndkpnhalaaGreat.Draw
set_option linter.unusedVariables false
set_option linter.unusedSimpArgs false
def five (m : M5) : List Value := [.string m.n, .int .i64 m.x, .int .i64 m.y, .int .i64 m.s, .int .i64 m.z]
theorem cellsM_cons (m : M5) (ms : List M5) : cellsM (m :: ms) = five m ++ cellsM ms := by simp [cellsM, five]
theorem cellsM_set : ∀ (ms : List M5) (i j : Nat) (u : Value) (m' : M5), i < ms.length → j < 5 → five m' = (five (mk ms i)).set j u → cellsM (ms.set i m') = (cellsM ms).set (i * 5 + j) u
  | [], _, _, _, _, hi, _, _ => absurd hi (by simp)
  | m :: ms, 0, j, u, m', _, hj, h => by
    have e : mk (m :: ms) 0 = m := rfl
    rw [e] at h
    rw [List.set_cons_zero, cellsM_cons, cellsM_cons, h, Nat.zero_mul, Nat.zero_add, List.set_append_left _ _ (by simp [five]; omega)]
  | m :: ms, i + 1, j, u, m', hi, hj, h => by
    have e : mk (m :: ms) (i + 1) = mk ms i := rfl
    rw [e] at h
    have ih := cellsM_set ms i j u m' (by simp at hi; omega) hj h
    rw [List.set_cons_succ, cellsM_cons, cellsM_cons, ih, List.set_append_right _ _ (by simp [five]; omega)]
    have e2 : (i + 1) * 5 + j - (five m).length = i * 5 + j := by simp [five]; omega
    rw [e2]
theorem own_set {w : World} {base g n cap : Nat} {ms : List M5} (h : OwnM w base (.slice (some ⟨g, 0, none⟩) n cap) ms) (hn : ms.length = n) (i : Nat) (hi : i < n) (j : Nat) (hj : j < 5) (u : Value) (m' : M5) (hm : five m' = (five (mk ms i)).set j u) :
    OwnM (w.setCell ⟨g, i * 5 + j, none⟩ u) base (.slice (some ⟨g, 0, none⟩) n cap) (ms.set i m') := by
  unfold OwnM at h ⊢
  rw [hn] at h
  rw [List.length_set, hn, cellsM_set ms i j u m' (by omega) hj hm]
  exact (World.ownsRow.stored h (i * 5 + j) u).1
theorem own_set2 {w : World} {base g n cap : Nat} {ms : List M5} (h : OwnM w base (.slice (some ⟨g, 0, none⟩) n cap) ms) (hn : ms.length = n) (i : Nat) (hi : i < n) (x y : Int) :
    OwnM ((w.setCell ⟨g, i * 5 + 1, none⟩ (.int .i64 x)).setCell ⟨g, i * 5 + 2, none⟩ (.int .i64 y)) base (.slice (some ⟨g, 0, none⟩) n cap) (ms.set i ⟨(mk ms i).n, x, y, (mk ms i).s, (mk ms i).z⟩) := by
  have h1 := own_set h hn i hi 1 (by omega) (.int .i64 x) ⟨(mk ms i).n, x, (mk ms i).y, (mk ms i).s, (mk ms i).z⟩ rfl
  have e : mk (ms.set i ⟨(mk ms i).n, x, (mk ms i).y, (mk ms i).s, (mk ms i).z⟩) i = ⟨(mk ms i).n, x, (mk ms i).y, (mk ms i).s, (mk ms i).z⟩ := by
    unfold mk
    rw [List.getD_eq_getElem?_getD, List.getElem?_set_self (by omega)]; rfl
  have h2 := own_set h1 (by rw [List.length_set]; exact hn) i hi 2 (by omega) (.int .i64 y) ⟨(mk ms i).n, x, y, (mk ms i).s, (mk ms i).z⟩ (by rw [e]; rfl)
  rw [List.set_set] at h2
  exact h2
theorem own_cell {w : World} {base g n cap : Nat} {ms : List M5} (h : OwnM w base (.slice (some ⟨g, 0, none⟩) n cap) ms) (hn : ms.length = n) (i : Nat) (hi : i < n) :
    At w g (i * 5) (mk ms i) ∧ w.frozen? ⟨g, i * 5, none⟩ = false ∧ w.frozen? ⟨g, i * 5 + 1, none⟩ = false ∧ w.frozen? ⟨g, i * 5 + 2, none⟩ = false ∧ w.frozen? ⟨g, i * 5 + 3, none⟩ = false ∧ w.frozen? ⟨g, i * 5 + 4, none⟩ = false := by
  rcases h.cases with ⟨hv, _⟩ | ⟨g', cap', hv, _, hO, _⟩
  · cases hv
  · cases hv; exact hO i (by omega)
theorem fit_set {ms : List M5} (h : Fit ms) (i : Nat) {m : M5} (hm : m.n.size ≤ maxLen) : Fit (ms.set i m) := by
  intro j hj
  rw [List.length_set] at hj
  unfold mk
  rw [List.getD_eq_getElem?_getD, List.getElem?_set]
  by_cases e : i = j
  · rw [if_pos e, if_pos (by omega)]; exact hm
  · rw [if_neg e, ← List.getD_eq_getElem?_getD]; exact h j hj
theorem tbl_s {w : World} {n : Nat} {a b c d : ByteArray} (H : Box w n [.string a, .string b, .string c, .string d]) (r : Nat) (h : r < 4) (ha : a.size ≤ maxLen := by decide) (hb : b.size ≤ maxLen := by decide) (hc : c.size ≤ maxLen := by decide) (hd : d.size ≤ maxLen := by decide) :
    ∃ u, w.cell? ⟨n, r, none⟩ = some (.string u) ∧ u.size ≤ maxLen :=
  match r, h with
  | 0, _ => ⟨a, (H 0 _ rfl).1, ha⟩ | 1, _ => ⟨b, (H 1 _ rfl).1, hb⟩ | 2, _ => ⟨c, (H 2 _ rfl).1, hc⟩ | 3, _ => ⟨d, (H 3 _ rfl).1, hd⟩
theorem tbl_i {w : World} {n : Nat} {a b c : Int} (H : Box w n [.int .i64 a, .int .i64 b, .int .i64 c]) (r : Nat) (h : r < 3) : ∃ u, w.cell? ⟨n, r, none⟩ = some (.int .i64 u) ∧ True :=
  match r, h with
  | 0, _ => ⟨a, (H 0 _ rfl).1, trivial⟩ | 1, _ => ⟨b, (H 1 _ rfl).1, trivial⟩ | 2, _ => ⟨c, (H 2 _ rfl).1, trivial⟩
def AnyC (B : Nat) (w : World) (e : Ending) (w' : World) : Prop :=
  ∃ (l k : L4) (v : Value) (ms : List M5), e = .returned (CV l k v) ∧ ms.length ≤ 9 ∧ Fit ms ∧ OwnM w' w.heap.size v ms ∧ Src w' B ∧ Chg B w w'
theorem dany_done {B n : Nat} {w F : World} {tmps : Array Value} {l k : L4} {v : Value} {ms : List M5} (R : Box F w.heap.size (cellsC l k v)) (hf : Fit ms) (hn : ms.length = n) (h9 : n ≤ 9) (hO : OwnM F (w.heap.size + 1) v ms) (hS : SC w B F) (ha : tmps[2]? = some (.pointer (some ⟨w.heap.size, 0, none⟩))) :
    bodyPost Tryz.prog Tryz.f71 (AnyC B w) Exit.ret ⟨tmps, []⟩ F := by
  obtain ⟨⟨g0, g1, g2, g3, g4, g5, g6, g7, g8⟩, _⟩ := Box.nine R
  exact bodyPost_ret (v := CV l k v) (by simp [results, Tryz.results71, go_sem, ha, g0, g1, g2, g3, g4, g5, g6, g7, g8]) rfl ⟨l, k, v, ms, rfl, by omega, hf, row_mono hO (by omega), hS.2, hS.1⟩
def RelDa (w : World) (B T : Nat) (l k : L4) (wr : World) : Prop :=
  ∃ (ms : List M5) (ao : Option Addr) (cap : Nat), ms.length ≤ 9 ∧ Fit ms ∧ OwnM wr (w.heap.size + 1) (.slice ao ms.length cap) ms ∧ (Value.slice ao ms.length cap).ownBlock ≠ some T ∧ Box wr T (cellsC l k (.slice ao ms.length cap)) ∧ Box wr w.heap.size (cellsC zeroL zeroL (.slice none 0 0)) ∧ SC w B wr
theorem number_one (n : Int) (w : World) (h0 : 0 ≤ n) (h : n < 10) : Calls Tryz.prog 135 #[.int .i64 n] w fun e w' => (∃ b : UInt8, e = .returned (.string ⟨#[b]⟩)) ∧ Ext w w' :=
  (TxtN.number_small n w h0 h).mono fun e w' he => by
    rw [Lib.decDigits_one (by omega)] at he
    exact ⟨⟨_, he.1⟩, he.2⟩
def OnT (T : Nat) (W w' : World) : Prop := Chg T W w'
theorem rel_da {w X : World} {B T : Nat} {l k : L4} {u v : Value} {ms : List M5} (h9 : ms.length ≤ 9) (hFit : Fit ms) (hO : OwnM X (w.heap.size + 1) v ms) (hv : v.ownBlock ≠ some T) (hl : ms.length ≤ maxLen) (hT : Box X T (cellsC l k u)) (hR : Box X w.heap.size (cellsC zeroL zeroL (.slice none 0 0))) (hS : SC w B X) (hBT : B < T) (hwT : w.heap.size < T) :
    RelDa w B T l k (X.setCell ⟨T, 8, none⟩ v) ∧ lenC (X.setCell ⟨T, 8, none⟩ v) T = ms.length := by
  obtain ⟨ao, cap, rfl, -⟩ := hO.mks ⟨hl, hFit⟩
  have hT' := hT.set 8 (by simp) (.slice ao ms.length cap)
  have hO' : OwnM (X.setCell ⟨T, 8, none⟩ (.slice ao ms.length cap)) (w.heap.size + 1) (.slice ao ms.length cap) ms := OwnM.chg hO (((Chg.refl T X).setCell 8 _)) hv
  exact ⟨⟨ms, ao, cap, h9, hFit, hO', hv, hT', hR.away (p := ⟨T, 8, none⟩) (show T ≠ w.heap.size by omega) _, hS.set (p := ⟨T, 8, none⟩) (show B < T by omega) (show w.heap.size ≤ T by omega) _⟩, lenC_eq (hT' 8 _ rfl).1⟩
set_option maxRecDepth 100000 in
set_option maxHeartbeats 16000000 in
theorem drawCAny_any (B : Nat) (w : World) (hs : Src w B) : Calls Tryz.prog 71 #[.pointer (some ⟨B, 0, none⟩)] w (AnyC B w) := by
  have hB := hs.lt
  have nR : w.heap.size ≠ B := by omega
  have R := Lib.hid (Box.new (w := w) (n := w.heap.size) (vs := cellsC zeroL zeroL (.slice none 0 0)) (t := 30) rfl)
  have hC : SC w B (w.alloc (.cells (cellsC zeroL zeroL (.slice none 0 0)).toArray 30)) := ⟨(Chg.refl B w).alloc _, hs.alloc _⟩
  go_enter Tryz.func71, Tryz.ntmps71
  go_wp2_with fail
  refine (drawCo_any B _ hC.2).mono ?_
  rintro e w1 ⟨l, k, v, ms, rfl, h1, h4, hFit, hO, hs1, hc⟩
  replace R := Lib.hid (R.out.chg hc nR)
  replace hC : SC w B w1 := ⟨hC.1.trans hc, hs1⟩
  have z1 := hc.size
  simp at z1
  rcases hO.cases with ⟨_, h0⟩ | ⟨g, cap, rfl, hgb, hOw, _⟩
  · rw [h0] at h1; simp at h1
  simp at hgb
  have hgl0 : g < w1.heap.size := (World.ownsRow.lt hO g rfl).2
  replace hO := Lib.hid (row_mono (b2 := w.heap.size + 1) hO (by simp))
  replace hFit := Lib.hid hFit
  clear hc hs1 hs hOw
  obtain ⟨n, hn⟩ : ∃ n, ms.length = n := ⟨_, rfl⟩
  rw [hn] at h1 h4 hO ⊢
  have TB := (Box.new (w := w1) (n := w1.heap.size) (vs := cellsC l k (.slice (some ⟨g, 0, none⟩) n cap)) (t := 30) rfl)
  have lB1 := hC.lt
  go_wp2_with fail
  refine (next_any B _ _ (hC.2.alloc _)).mono ?_
  rintro e w2 ⟨r, rfl, r0, r1, r2, hs2, hc⟩
  obtain ⟨ix, rfl⟩ := Int.eq_ofNat_of_zero_le r0
  have hix : ix < n := by
    by_cases h : 1 < n
    · have := r1 (by omega); omega
    · have := r2 (by omega); omega
  obtain ⟨T, hT⟩ : ∃ T, T = w1.heap.size := ⟨_, rfl⟩
  have nT : T ≠ B := by omega
  replace TB := Lib.hid (TB.chg hc (by omega))
  replace R := Lib.hid ((R.out.alloc (.cells (cellsC l k (.slice (some ⟨g, 0, none⟩) n cap)).toArray 30)).chg hc nR)
  replace hO := Lib.hid (OwnM.chg (OwnM.ext (ms := ms) (by unfold OwnM; rw [hn]; exact hO.out) ((Ext.refl w1).alloc (.cells (cellsC l k (.slice (some ⟨g, 0, none⟩) n cap)).toArray 30))) hc (by simp [Value.ownBlock]; omega))
  replace hC : SC w B w2 := ⟨(hC.1.alloc _).trans hc, hs2⟩
  have z2 := hc.size
  simp at z2
  rw [← hT] at TB
  clear hc hs2 r1 r2
  have i0 : (0 : Int) ≤ (ix : Int) := by omega
  have i1 : (ix : Int) < (n : Int) := by omega
  go_wp2_with fail
  refine (next_pos B _ _ hC.2 (by omega)).mono ?_
  rintro e w3 ⟨q, rfl, q0, q1, hs3, hc⟩
  have TF := Lib.hid (TB.out.chg hc nT)
  have RF := Lib.hid (R.out.chg hc nR)
  have OF := Lib.hid (hO.out.chg hc (by simp [Value.ownBlock]; omega))
  have SF := Lib.hid (show SC w B w3 from ⟨hC.1.trans hc, hs3⟩)
  have HFit := Lib.hid hFit.out
  have hFx : ∀ i, (mk ms i).n.size ≤ maxLen := fun i => by
    by_cases h : i < ms.length
    · exact HFit.out i h
    · unfold mk; rw [List.getD_eq_getElem?_getD, List.getElem?_eq_none (by omega)]; decide
  replace hFx := Lib.hid hFx
  have tc8 := (TF.out 8 _ rfl).1
  have z3 := hc.size
  have hgT : g ≠ T := by omega
  have hgR : g ≠ w.heap.size := by omega
  have hgl : g < w3.heap.size := by omega
  have hTw : w.heap.size < T := by omega
  have hT3 : T < w3.heap.size := by omega
  replace hn := Lib.hid hn
  rw [← hT]
  clear TB R hO hC hc hs3 hFit hgl0 lB1 hT
  rcases (show q = 0 ∨ q = 1 ∨ q = 2 ∨ q = 3 ∨ q = 4 ∨ q = 5 ∨ q = 6 ∨ (q ≠ 0 ∧ q ≠ 1 ∧ q ≠ 2 ∧ q ≠ 3 ∧ q ≠ 4 ∧ q ≠ 5 ∧ q ≠ 6) by omega) with rfl | rfl | rfl | rfl | rfl | rfl | rfl | ⟨e0, e1, e2, e3, e4, e5, e6⟩
  · -- way 0
    go_upto_region 5 with fail
    refine wp_region_held_drew (S := fun w' => w'.cell? ⟨T, 8, none⟩ = some (.slice (some ⟨g, 0, none⟩) n cap)) (by kernel_rfl) (by (try dsimp only); exact tc8) (fun hHeld => ?_)
    refine Ord.K 0 17 ?_; refine Ord.K 1 18 ?_; refine Ord.K 2 19 ?_; refine Ord.K 4 21 ?_
    replace TF := Lib.hid TF.out.drew
    replace RF := Lib.hid RF.out.drew
    replace OF := Lib.hid (OF.out.ext (Ext.refl w3).drew)
    replace SF := Lib.hid SF.out.drew
    replace tc8 : w3.drew.cell? ⟨T, 8, none⟩ = some (.slice (some ⟨g, 0, none⟩) n cap) := tc8
    have zd : w3.heap.size ≤ w3.drew.heap.size := Nat.le_refl _
    generalize w3.drew = V0 at *
    refine wpAnyH_ready (rs := [3, 5]) (by kernel_rfl) (by simp) ?_
    refine (AllReadyH.cons rfl (fun K hK => ?_) (AllReadyH.cons rfl (fun K hK => ?_) AllReadyH.nil))
    · go_simp
      have LB := Box.new (w := V0) (n := V0.heap.size) (vs := [.string ⟨#[]⟩, .string ⟨#[77]⟩, .string ⟨#[109, 117, 99, 104, 116, 111, 111, 108, 111, 110, 103]⟩, .string ⟨#[109, 49]⟩]) (t := 9) rfl
      have yL : V0.heap.size < (V0.alloc (.cells #[.string ⟨#[]⟩, .string ⟨#[77]⟩, .string ⟨#[109, 117, 99, 104, 116, 111, 111, 108, 111, 110, 103]⟩, .string ⟨#[109, 49]⟩] 9)).heap.size := by simp
      replace TF := Lib.hid (TF.out.alloc (.cells #[.string ⟨#[]⟩, .string ⟨#[77]⟩, .string ⟨#[109, 117, 99, 104, 116, 111, 111, 108, 111, 110, 103]⟩, .string ⟨#[109, 49]⟩] 9))
      replace RF := Lib.hid (RF.out.alloc (.cells #[.string ⟨#[]⟩, .string ⟨#[77]⟩, .string ⟨#[109, 117, 99, 104, 116, 111, 111, 108, 111, 110, 103]⟩, .string ⟨#[109, 49]⟩] 9))
      replace OF := Lib.hid (OF.out.ext ((Ext.refl _).alloc (.cells #[.string ⟨#[]⟩, .string ⟨#[77]⟩, .string ⟨#[109, 117, 99, 104, 116, 111, 111, 108, 111, 110, 103]⟩, .string ⟨#[109, 49]⟩] 9)))
      have lB0 := SF.out.lt
      have zS0 := SF.out.size
      replace SF := Lib.hid (SF.out.alloc (.cells #[.string ⟨#[]⟩, .string ⟨#[77]⟩, .string ⟨#[109, 117, 99, 104, 116, 111, 111, 108, 111, 110, 103]⟩, .string ⟨#[109, 49]⟩] 9))
      have lg0 := World.block_lt_of_cell? _ _ tc8
      have nTl : T ≠ V0.heap.size := by simp at lg0; omega
      have ngl : g ≠ V0.heap.size := by have := (World.ownsRow.lt (row_ext OF.out (Ext.refl _)) g rfl).2; have := hgl; omega
      replace tc8 := ((Ext.refl V0).alloc (.cells #[.string ⟨#[]⟩, .string ⟨#[77]⟩, .string ⟨#[109, 117, 99, 104, 116, 111, 111, 108, 111, 110, 103]⟩, .string ⟨#[109, 49]⟩] 9)).cellOf tc8
      refine hK.out _ _ tc8 (fun hHeld => ?_)
      clear hK K
      (try simp only [Act.put, Ord.a, Ord.b, Ord.c])
      generalize hV : V0.alloc (.cells #[.string ⟨#[]⟩, .string ⟨#[77]⟩, .string ⟨#[109, 117, 99, 104, 116, 111, 111, 108, 111, 110, 103]⟩, .string ⟨#[109, 49]⟩] 9) = V1 at *
      clear hV
      refine wpAnyH_ready (rs := [5]) (by kernel_rfl) (by simp) ?_
      refine (AllReadyH.cons rfl (fun K hK => ?_) AllReadyH.nil)
      go_simp
      go_at_call 68
      refine (next_pos B _ _ SF.out.2 (by omega)).mono ?_
      rintro e V2 ⟨r, rfl, r0, r1, hs', hc⟩
      go_wp2_with fail
      obtain ⟨rn, rfl⟩ := Int.eq_ofNat_of_zero_le r0
      have zc := hc.size
      replace TF := Lib.hid (TF.out.chg hc nT)
      replace RF := Lib.hid (RF.out.chg hc nR)
      replace OF := Lib.hid (OF.out.chg hc (OF.out.block (by omega)))
      replace SF := Lib.hid (show SC w B V2 from ⟨SF.out.1.trans hc, hs'⟩)
      replace tc8 := hc.cellOf (a := ⟨T, 8, none⟩) nT tc8
      refine hK.out _ _ tc8 (fun hHeld => ?_)
      clear hK K
      (try simp only [Act.put, Ord.a, Ord.b, Ord.c])
      replace LB := Box.chg LB hc (by omega)
      clear hc hs'
      obtain ⟨u, cu, hu⟩ := tbl_s LB rn (by omega)
      have j0 : (0 : Int) ≤ (rn : Int) := by omega
      have j1 : (rn : Int) < 4 := by omega
      refine Ord.K 6 23 ?_
      refine wpAnyH_ready (rs := [7]) (by kernel_rfl) (by simp) ?_
      refine (AllReadyH.cons rfl (fun K hK => ?_) AllReadyH.nil)
      go_simp
      refine hK.out _ _ tc8 (fun hHeld => ?_)
      clear hK K
      (try simp only [Act.put, Ord.a, Ord.b, Ord.c])
      refine Ord.K 8 25 ?_; refine Ord.K 9 26 ?_
      refine wpAnyH_ready (rs := [10]) (by kernel_rfl) (by simp) ?_
      refine (AllReadyH.cons rfl (fun K hK => ?_) AllReadyH.nil)
      have CE := own_cell OF.out hn.out ix hix
      obtain ⟨⟨e0, e1, e2, e3, e4⟩, h0, h1, h2, h3, h4⟩ := CE
      go_simp
      have ZF : Chg g V2 (V2.setCell ⟨g, ix * 5, none⟩ (.string u)) := (Chg.refl _ _).setCell _ _
      have OF2 := Lib.hid (show OwnM (V2.setCell ⟨g, ix * 5, none⟩ (.string u)) (w.heap.size + 1) (.slice (some ⟨g, 0, none⟩) n cap) (ms.set ix ⟨u, (mk ms ix).x, (mk ms ix).y, (mk ms ix).s, (mk ms ix).z⟩) from own_set OF.out hn.out ix hix 0 (by omega) _ _ rfl)
      replace TF := Lib.hid (TF.out.chg ZF (by omega))
      replace RF := Lib.hid (RF.out.chg ZF (by omega))
      replace SF := Lib.hid (show SC w B (V2.setCell ⟨g, ix * 5, none⟩ (.string u)) from (SF.out.set (by simp; omega) (by simp; omega) _))
      replace tc8 := ZF.cellOf (a := ⟨T, 8, none⟩) (show T ≠ g by omega) tc8
      refine hK.out _ _ tc8 (fun hHeld => ?_)
      clear hK K
      (try simp only [Act.put, Ord.a, Ord.b, Ord.c])
      refine wpAnyH_done (by kernel_rfl) ?_ _
      clear e0 e1 e2 e3 e4 h0 h1 h2 h3 h4 ZF tc8 OF hHeld
      have OF := Lib.hid OF2.out
      clear OF2
      generalize (V2.setCell ⟨g, ix * 5, none⟩ (.string u)) = F at *
      have HFit2 := Lib.hid (fit_set HFit.out ix (m := ⟨u, (mk ms ix).x, (mk ms ix).y, (mk ms ix).s, (mk ms ix).z⟩) hu)
      have RB := Lib.hid (Box.put9 RF.out (.int .i64 l.a) (.int .i64 l.b) (.int .i64 l.c) (.int .i64 l.d) (.int .i64 k.a) (.int .i64 k.b) (.int .i64 k.c) (.int .i64 k.d) (.slice (some ⟨g, 0, none⟩) n cap))
      have SB := Lib.hid (SC.put9 SF.out (n := w.heap.size) hB (by omega) (.int .i64 l.a) (.int .i64 l.b) (.int .i64 l.c) (.int .i64 l.d) (.int .i64 k.a) (.int .i64 k.b) (.int .i64 k.c) (.int .i64 k.d) (.slice (some ⟨g, 0, none⟩) n cap))
      have OB := Lib.hid (OF.out.chg (Chg.put9 (n := w.heap.size) (.int .i64 l.a) (.int .i64 l.b) (.int .i64 l.c) (.int .i64 l.d) (.int .i64 k.a) (.int .i64 k.b) (.int .i64 k.c) (.int .i64 k.d) (.slice (some ⟨g, 0, none⟩) n cap)) (OF.out.block (by omega)))
      obtain ⟨⟨c0, c1, c2, c3, c4, c5, c6, c7, c8⟩, f0, f1, f2, f3, f4, f5, f6, f7, f8⟩ := Box.nine TF.out
      obtain ⟨⟨r0, r1, r2, r3, r4, r5, r6, r7, r8⟩, g0, g1, g2, g3, g4, g5, g6, g7, g8⟩ := Box.nine RF.out
      clear TF RF OF SF
      go_wp2
      exact dany_done (l := l) (k := k) (ms := ms.set ix ⟨u, (mk ms ix).x, (mk ms ix).y, (mk ms ix).s, (mk ms ix).z⟩) RB.out HFit2.out (n := n) (by rw [List.length_set]; exact hn.out) (by omega) OB.out SB.out rfl
    · go_simp
      go_at_call 68
      refine (next_pos B _ _ SF.out.2 (by omega)).mono ?_
      rintro e V1 ⟨r, rfl, r0, r1, hs', hc⟩
      go_wp2_with fail
      obtain ⟨rn, rfl⟩ := Int.eq_ofNat_of_zero_le r0
      have zc := hc.size
      replace TF := Lib.hid (TF.out.chg hc nT)
      replace RF := Lib.hid (RF.out.chg hc nR)
      replace OF := Lib.hid (OF.out.chg hc (OF.out.block (by omega)))
      replace SF := Lib.hid (show SC w B V1 from ⟨SF.out.1.trans hc, hs'⟩)
      replace tc8 := hc.cellOf (a := ⟨T, 8, none⟩) nT tc8
      refine hK.out _ _ tc8 (fun hHeld => ?_)
      clear hK K
      (try simp only [Act.put, Ord.a, Ord.b, Ord.c])
      clear hc hs'
      refine wpAnyH_ready (rs := [3]) (by kernel_rfl) (by simp) ?_
      refine (AllReadyH.cons rfl (fun K hK => ?_) AllReadyH.nil)
      go_simp
      have LB := Box.new (w := V1) (n := V1.heap.size) (vs := [.string ⟨#[]⟩, .string ⟨#[77]⟩, .string ⟨#[109, 117, 99, 104, 116, 111, 111, 108, 111, 110, 103]⟩, .string ⟨#[109, 49]⟩]) (t := 9) rfl
      have yL : V1.heap.size < (V1.alloc (.cells #[.string ⟨#[]⟩, .string ⟨#[77]⟩, .string ⟨#[109, 117, 99, 104, 116, 111, 111, 108, 111, 110, 103]⟩, .string ⟨#[109, 49]⟩] 9)).heap.size := by simp
      replace TF := Lib.hid (TF.out.alloc (.cells #[.string ⟨#[]⟩, .string ⟨#[77]⟩, .string ⟨#[109, 117, 99, 104, 116, 111, 111, 108, 111, 110, 103]⟩, .string ⟨#[109, 49]⟩] 9))
      replace RF := Lib.hid (RF.out.alloc (.cells #[.string ⟨#[]⟩, .string ⟨#[77]⟩, .string ⟨#[109, 117, 99, 104, 116, 111, 111, 108, 111, 110, 103]⟩, .string ⟨#[109, 49]⟩] 9))
      replace OF := Lib.hid (OF.out.ext ((Ext.refl _).alloc (.cells #[.string ⟨#[]⟩, .string ⟨#[77]⟩, .string ⟨#[109, 117, 99, 104, 116, 111, 111, 108, 111, 110, 103]⟩, .string ⟨#[109, 49]⟩] 9)))
      have lB0 := SF.out.lt
      have zS0 := SF.out.size
      replace SF := Lib.hid (SF.out.alloc (.cells #[.string ⟨#[]⟩, .string ⟨#[77]⟩, .string ⟨#[109, 117, 99, 104, 116, 111, 111, 108, 111, 110, 103]⟩, .string ⟨#[109, 49]⟩] 9))
      have lg0 := World.block_lt_of_cell? _ _ tc8
      have nTl : T ≠ V1.heap.size := by simp at lg0; omega
      have ngl : g ≠ V1.heap.size := by have := (World.ownsRow.lt (row_ext OF.out (Ext.refl _)) g rfl).2; have := hgl; omega
      replace tc8 := ((Ext.refl V1).alloc (.cells #[.string ⟨#[]⟩, .string ⟨#[77]⟩, .string ⟨#[109, 117, 99, 104, 116, 111, 111, 108, 111, 110, 103]⟩, .string ⟨#[109, 49]⟩] 9)).cellOf tc8
      refine hK.out _ _ tc8 (fun hHeld => ?_)
      clear hK K
      (try simp only [Act.put, Ord.a, Ord.b, Ord.c])
      generalize hV : V1.alloc (.cells #[.string ⟨#[]⟩, .string ⟨#[77]⟩, .string ⟨#[109, 117, 99, 104, 116, 111, 111, 108, 111, 110, 103]⟩, .string ⟨#[109, 49]⟩] 9) = V2 at *
      clear hV
      obtain ⟨u, cu, hu⟩ := tbl_s LB rn (by omega)
      have j0 : (0 : Int) ≤ (rn : Int) := by omega
      have j1 : (rn : Int) < 4 := by omega
      refine Ord.K 6 23 ?_
      refine wpAnyH_ready (rs := [7]) (by kernel_rfl) (by simp) ?_
      refine (AllReadyH.cons rfl (fun K hK => ?_) AllReadyH.nil)
      go_simp
      refine hK.out _ _ tc8 (fun hHeld => ?_)
      clear hK K
      (try simp only [Act.put, Ord.a, Ord.b, Ord.c])
      refine Ord.K 8 25 ?_; refine Ord.K 9 26 ?_
      refine wpAnyH_ready (rs := [10]) (by kernel_rfl) (by simp) ?_
      refine (AllReadyH.cons rfl (fun K hK => ?_) AllReadyH.nil)
      have CE := own_cell OF.out hn.out ix hix
      obtain ⟨⟨e0, e1, e2, e3, e4⟩, h0, h1, h2, h3, h4⟩ := CE
      go_simp
      have ZF : Chg g V2 (V2.setCell ⟨g, ix * 5, none⟩ (.string u)) := (Chg.refl _ _).setCell _ _
      have OF2 := Lib.hid (show OwnM (V2.setCell ⟨g, ix * 5, none⟩ (.string u)) (w.heap.size + 1) (.slice (some ⟨g, 0, none⟩) n cap) (ms.set ix ⟨u, (mk ms ix).x, (mk ms ix).y, (mk ms ix).s, (mk ms ix).z⟩) from own_set OF.out hn.out ix hix 0 (by omega) _ _ rfl)
      replace TF := Lib.hid (TF.out.chg ZF (by omega))
      replace RF := Lib.hid (RF.out.chg ZF (by omega))
      replace SF := Lib.hid (show SC w B (V2.setCell ⟨g, ix * 5, none⟩ (.string u)) from (SF.out.set (by simp; omega) (by simp; omega) _))
      replace tc8 := ZF.cellOf (a := ⟨T, 8, none⟩) (show T ≠ g by omega) tc8
      refine hK.out _ _ tc8 (fun hHeld => ?_)
      clear hK K
      (try simp only [Act.put, Ord.a, Ord.b, Ord.c])
      refine wpAnyH_done (by kernel_rfl) ?_ _
      clear e0 e1 e2 e3 e4 h0 h1 h2 h3 h4 ZF tc8 OF hHeld
      have OF := Lib.hid OF2.out
      clear OF2
      generalize (V2.setCell ⟨g, ix * 5, none⟩ (.string u)) = F at *
      have HFit2 := Lib.hid (fit_set HFit.out ix (m := ⟨u, (mk ms ix).x, (mk ms ix).y, (mk ms ix).s, (mk ms ix).z⟩) hu)
      have RB := Lib.hid (Box.put9 RF.out (.int .i64 l.a) (.int .i64 l.b) (.int .i64 l.c) (.int .i64 l.d) (.int .i64 k.a) (.int .i64 k.b) (.int .i64 k.c) (.int .i64 k.d) (.slice (some ⟨g, 0, none⟩) n cap))
      have SB := Lib.hid (SC.put9 SF.out (n := w.heap.size) hB (by omega) (.int .i64 l.a) (.int .i64 l.b) (.int .i64 l.c) (.int .i64 l.d) (.int .i64 k.a) (.int .i64 k.b) (.int .i64 k.c) (.int .i64 k.d) (.slice (some ⟨g, 0, none⟩) n cap))
      have OB := Lib.hid (OF.out.chg (Chg.put9 (n := w.heap.size) (.int .i64 l.a) (.int .i64 l.b) (.int .i64 l.c) (.int .i64 l.d) (.int .i64 k.a) (.int .i64 k.b) (.int .i64 k.c) (.int .i64 k.d) (.slice (some ⟨g, 0, none⟩) n cap)) (OF.out.block (by omega)))
      obtain ⟨⟨c0, c1, c2, c3, c4, c5, c6, c7, c8⟩, f0, f1, f2, f3, f4, f5, f6, f7, f8⟩ := Box.nine TF.out
      obtain ⟨⟨r0, r1, r2, r3, r4, r5, r6, r7, r8⟩, g0, g1, g2, g3, g4, g5, g6, g7, g8⟩ := Box.nine RF.out
      clear TF RF OF SF
      go_wp2
      exact dany_done (l := l) (k := k) (ms := ms.set ix ⟨u, (mk ms ix).x, (mk ms ix).y, (mk ms ix).s, (mk ms ix).z⟩) RB.out HFit2.out (n := n) (by rw [List.length_set]; exact hn.out) (by omega) OB.out SB.out rfl
  · -- way 1
    go_upto_region 7 with fail
    refine wp_region_held_drew (S := fun w' => w'.cell? ⟨T, 8, none⟩ = some (.slice (some ⟨g, 0, none⟩) n cap)) (by kernel_rfl) (by (try dsimp only); exact tc8) (fun hHeld => ?_)
    refine Ord.K 0 29 ?_; refine Ord.K 1 30 ?_; refine Ord.K 2 31 ?_; refine Ord.K 3 32 ?_
    replace TF := Lib.hid TF.out.drew
    replace RF := Lib.hid RF.out.drew
    replace OF := Lib.hid (OF.out.ext (Ext.refl w3).drew)
    replace SF := Lib.hid SF.out.drew
    replace tc8 : w3.drew.cell? ⟨T, 8, none⟩ = some (.slice (some ⟨g, 0, none⟩) n cap) := tc8
    have zd : w3.heap.size ≤ w3.drew.heap.size := Nat.le_refl _
    generalize w3.drew = V0 at *
    refine wpAnyH_ready (rs := [4]) (by kernel_rfl) (by simp) ?_
    refine (AllReadyH.cons rfl (fun K hK => ?_) AllReadyH.nil)
    go_simp
    go_at_call 68
    refine (next_pos B _ _ SF.out.2 (by omega)).mono ?_
    rintro e V1 ⟨r, rfl, r0, r1, hs', hc⟩
    go_wp2_with fail
    obtain ⟨rn, rfl⟩ := Int.eq_ofNat_of_zero_le r0
    have zc := hc.size
    replace TF := Lib.hid (TF.out.chg hc nT)
    replace RF := Lib.hid (RF.out.chg hc nR)
    replace OF := Lib.hid (OF.out.chg hc (OF.out.block (by omega)))
    replace SF := Lib.hid (show SC w B V1 from ⟨SF.out.1.trans hc, hs'⟩)
    replace tc8 := hc.cellOf (a := ⟨T, 8, none⟩) nT tc8
    refine hK.out _ _ tc8 (fun hHeld => ?_)
    clear hK K
    (try simp only [Act.put, Ord.a, Ord.b, Ord.c])
    clear hc hs'
    refine Ord.K 5 34 ?_; refine Ord.K 6 35 ?_; refine Ord.K 7 36 ?_
    refine wpAnyH_ready (rs := [8]) (by kernel_rfl) (by simp) ?_
    refine (AllReadyH.cons rfl (fun K hK => ?_) AllReadyH.nil)
    have CE := own_cell OF.out hn.out ix hix
    obtain ⟨⟨e0, e1, e2, e3, e4⟩, h0, h1, h2, h3, h4⟩ := CE
    go_simp
    have ZF : Chg g V1 (V1.setCell ⟨g, ix * 5 + 3, none⟩ (.int .i64 (IntKind.i64.wrap (3 * (rn : Int))))) := (Chg.refl _ _).setCell _ _
    have OF2 := Lib.hid (show OwnM (V1.setCell ⟨g, ix * 5 + 3, none⟩ (.int .i64 (IntKind.i64.wrap (3 * (rn : Int))))) (w.heap.size + 1) (.slice (some ⟨g, 0, none⟩) n cap) (ms.set ix ⟨(mk ms ix).n, (mk ms ix).x, (mk ms ix).y, IntKind.i64.wrap (3 * (rn : Int)), (mk ms ix).z⟩) from own_set OF.out hn.out ix hix 3 (by omega) _ _ rfl)
    replace TF := Lib.hid (TF.out.chg ZF (by omega))
    replace RF := Lib.hid (RF.out.chg ZF (by omega))
    replace SF := Lib.hid (show SC w B (V1.setCell ⟨g, ix * 5 + 3, none⟩ (.int .i64 (IntKind.i64.wrap (3 * (rn : Int))))) from (SF.out.set (by simp; omega) (by simp; omega) _))
    replace tc8 := ZF.cellOf (a := ⟨T, 8, none⟩) (show T ≠ g by omega) tc8
    refine hK.out _ _ tc8 (fun hHeld => ?_)
    clear hK K
    (try simp only [Act.put, Ord.a, Ord.b, Ord.c])
    refine wpAnyH_done (by kernel_rfl) ?_ _
    clear e0 e1 e2 e3 e4 h0 h1 h2 h3 h4 ZF tc8 OF hHeld
    have OF := Lib.hid OF2.out
    clear OF2
    generalize (V1.setCell ⟨g, ix * 5 + 3, none⟩ (.int .i64 (IntKind.i64.wrap (3 * (rn : Int))))) = F at *
    have HFit2 := Lib.hid (fit_set HFit.out ix (m := ⟨(mk ms ix).n, (mk ms ix).x, (mk ms ix).y, IntKind.i64.wrap (3 * (rn : Int)), (mk ms ix).z⟩) (hFx.out ix))
    have RB := Lib.hid (Box.put9 RF.out (.int .i64 l.a) (.int .i64 l.b) (.int .i64 l.c) (.int .i64 l.d) (.int .i64 k.a) (.int .i64 k.b) (.int .i64 k.c) (.int .i64 k.d) (.slice (some ⟨g, 0, none⟩) n cap))
    have SB := Lib.hid (SC.put9 SF.out (n := w.heap.size) hB (by omega) (.int .i64 l.a) (.int .i64 l.b) (.int .i64 l.c) (.int .i64 l.d) (.int .i64 k.a) (.int .i64 k.b) (.int .i64 k.c) (.int .i64 k.d) (.slice (some ⟨g, 0, none⟩) n cap))
    have OB := Lib.hid (OF.out.chg (Chg.put9 (n := w.heap.size) (.int .i64 l.a) (.int .i64 l.b) (.int .i64 l.c) (.int .i64 l.d) (.int .i64 k.a) (.int .i64 k.b) (.int .i64 k.c) (.int .i64 k.d) (.slice (some ⟨g, 0, none⟩) n cap)) (OF.out.block (by omega)))
    obtain ⟨⟨c0, c1, c2, c3, c4, c5, c6, c7, c8⟩, f0, f1, f2, f3, f4, f5, f6, f7, f8⟩ := Box.nine TF.out
    obtain ⟨⟨r0, r1, r2, r3, r4, r5, r6, r7, r8⟩, g0, g1, g2, g3, g4, g5, g6, g7, g8⟩ := Box.nine RF.out
    clear TF RF OF SF
    go_wp2
    exact dany_done (l := l) (k := k) (ms := ms.set ix ⟨(mk ms ix).n, (mk ms ix).x, (mk ms ix).y, IntKind.i64.wrap (3 * (rn : Int)), (mk ms ix).z⟩) RB.out HFit2.out (n := n) (by rw [List.length_set]; exact hn.out) (by omega) OB.out SB.out rfl
  · -- way 2
    go_upto_region 9 with fail
    refine wp_region_held_drew (S := fun w' => w'.cell? ⟨T, 8, none⟩ = some (.slice (some ⟨g, 0, none⟩) n cap)) (by kernel_rfl) (by (try dsimp only); exact tc8) (fun hHeld => ?_)
    refine Ord.K 0 39 ?_; refine Ord.K 1 40 ?_; refine Ord.K 2 41 ?_; refine Ord.K 4 43 ?_
    replace TF := Lib.hid TF.out.drew
    replace RF := Lib.hid RF.out.drew
    replace OF := Lib.hid (OF.out.ext (Ext.refl w3).drew)
    replace SF := Lib.hid SF.out.drew
    replace tc8 : w3.drew.cell? ⟨T, 8, none⟩ = some (.slice (some ⟨g, 0, none⟩) n cap) := tc8
    have zd : w3.heap.size ≤ w3.drew.heap.size := Nat.le_refl _
    generalize w3.drew = V0 at *
    refine wpAnyH_ready (rs := [3, 5]) (by kernel_rfl) (by simp) ?_
    refine (AllReadyH.cons rfl (fun K hK => ?_) (AllReadyH.cons rfl (fun K hK => ?_) AllReadyH.nil))
    · go_simp
      have LB := Box.new (w := V0) (n := V0.heap.size) (vs := [.int .i64 0, .int .i64 5000, .int .i64 5001]) (t := 2) rfl
      have yL : V0.heap.size < (V0.alloc (.cells #[.int .i64 0, .int .i64 5000, .int .i64 5001] 2)).heap.size := by simp
      replace TF := Lib.hid (TF.out.alloc (.cells #[.int .i64 0, .int .i64 5000, .int .i64 5001] 2))
      replace RF := Lib.hid (RF.out.alloc (.cells #[.int .i64 0, .int .i64 5000, .int .i64 5001] 2))
      replace OF := Lib.hid (OF.out.ext ((Ext.refl _).alloc (.cells #[.int .i64 0, .int .i64 5000, .int .i64 5001] 2)))
      have lB0 := SF.out.lt
      have zS0 := SF.out.size
      replace SF := Lib.hid (SF.out.alloc (.cells #[.int .i64 0, .int .i64 5000, .int .i64 5001] 2))
      have lg0 := World.block_lt_of_cell? _ _ tc8
      have nTl : T ≠ V0.heap.size := by simp at lg0; omega
      have ngl : g ≠ V0.heap.size := by have := (World.ownsRow.lt (row_ext OF.out (Ext.refl _)) g rfl).2; have := hgl; omega
      replace tc8 := ((Ext.refl V0).alloc (.cells #[.int .i64 0, .int .i64 5000, .int .i64 5001] 2)).cellOf tc8
      refine hK.out _ _ tc8 (fun hHeld => ?_)
      clear hK K
      (try simp only [Act.put, Ord.a, Ord.b, Ord.c])
      generalize hV : V0.alloc (.cells #[.int .i64 0, .int .i64 5000, .int .i64 5001] 2) = V1 at *
      clear hV
      refine wpAnyH_ready (rs := [5]) (by kernel_rfl) (by simp) ?_
      refine (AllReadyH.cons rfl (fun K hK => ?_) AllReadyH.nil)
      go_simp
      go_at_call 68
      refine (next_pos B _ _ SF.out.2 (by omega)).mono ?_
      rintro e V2 ⟨r, rfl, r0, r1, hs', hc⟩
      go_wp2_with fail
      obtain ⟨rn, rfl⟩ := Int.eq_ofNat_of_zero_le r0
      have zc := hc.size
      replace TF := Lib.hid (TF.out.chg hc nT)
      replace RF := Lib.hid (RF.out.chg hc nR)
      replace OF := Lib.hid (OF.out.chg hc (OF.out.block (by omega)))
      replace SF := Lib.hid (show SC w B V2 from ⟨SF.out.1.trans hc, hs'⟩)
      replace tc8 := hc.cellOf (a := ⟨T, 8, none⟩) nT tc8
      refine hK.out _ _ tc8 (fun hHeld => ?_)
      clear hK K
      (try simp only [Act.put, Ord.a, Ord.b, Ord.c])
      replace LB := Box.chg LB hc (by omega)
      clear hc hs'
      obtain ⟨u, cu, hu⟩ := tbl_i LB rn (by omega)
      have j0 : (0 : Int) ≤ (rn : Int) := by omega
      have j1 : (rn : Int) < 3 := by omega
      refine Ord.K 6 45 ?_
      refine wpAnyH_ready (rs := [7]) (by kernel_rfl) (by simp) ?_
      refine (AllReadyH.cons rfl (fun K hK => ?_) AllReadyH.nil)
      go_simp
      refine hK.out _ _ tc8 (fun hHeld => ?_)
      clear hK K
      (try simp only [Act.put, Ord.a, Ord.b, Ord.c])
      refine Ord.K 8 47 ?_; refine Ord.K 9 48 ?_
      refine wpAnyH_ready (rs := [10]) (by kernel_rfl) (by simp) ?_
      refine (AllReadyH.cons rfl (fun K hK => ?_) AllReadyH.nil)
      have CE := own_cell OF.out hn.out ix hix
      obtain ⟨⟨e0, e1, e2, e3, e4⟩, h0, h1, h2, h3, h4⟩ := CE
      go_simp
      have ZF : Chg g V2 (V2.setCell ⟨g, ix * 5 + 4, none⟩ (.int .i64 u)) := (Chg.refl _ _).setCell _ _
      have OF2 := Lib.hid (show OwnM (V2.setCell ⟨g, ix * 5 + 4, none⟩ (.int .i64 u)) (w.heap.size + 1) (.slice (some ⟨g, 0, none⟩) n cap) (ms.set ix ⟨(mk ms ix).n, (mk ms ix).x, (mk ms ix).y, (mk ms ix).s, u⟩) from own_set OF.out hn.out ix hix 4 (by omega) _ _ rfl)
      replace TF := Lib.hid (TF.out.chg ZF (by omega))
      replace RF := Lib.hid (RF.out.chg ZF (by omega))
      replace SF := Lib.hid (show SC w B (V2.setCell ⟨g, ix * 5 + 4, none⟩ (.int .i64 u)) from (SF.out.set (by simp; omega) (by simp; omega) _))
      replace tc8 := ZF.cellOf (a := ⟨T, 8, none⟩) (show T ≠ g by omega) tc8
      refine hK.out _ _ tc8 (fun hHeld => ?_)
      clear hK K
      (try simp only [Act.put, Ord.a, Ord.b, Ord.c])
      refine wpAnyH_done (by kernel_rfl) ?_ _
      clear e0 e1 e2 e3 e4 h0 h1 h2 h3 h4 ZF tc8 OF hHeld
      have OF := Lib.hid OF2.out
      clear OF2
      generalize (V2.setCell ⟨g, ix * 5 + 4, none⟩ (.int .i64 u)) = F at *
      have HFit2 := Lib.hid (fit_set HFit.out ix (m := ⟨(mk ms ix).n, (mk ms ix).x, (mk ms ix).y, (mk ms ix).s, u⟩) (hFx.out ix))
      have RB := Lib.hid (Box.put9 RF.out (.int .i64 l.a) (.int .i64 l.b) (.int .i64 l.c) (.int .i64 l.d) (.int .i64 k.a) (.int .i64 k.b) (.int .i64 k.c) (.int .i64 k.d) (.slice (some ⟨g, 0, none⟩) n cap))
      have SB := Lib.hid (SC.put9 SF.out (n := w.heap.size) hB (by omega) (.int .i64 l.a) (.int .i64 l.b) (.int .i64 l.c) (.int .i64 l.d) (.int .i64 k.a) (.int .i64 k.b) (.int .i64 k.c) (.int .i64 k.d) (.slice (some ⟨g, 0, none⟩) n cap))
      have OB := Lib.hid (OF.out.chg (Chg.put9 (n := w.heap.size) (.int .i64 l.a) (.int .i64 l.b) (.int .i64 l.c) (.int .i64 l.d) (.int .i64 k.a) (.int .i64 k.b) (.int .i64 k.c) (.int .i64 k.d) (.slice (some ⟨g, 0, none⟩) n cap)) (OF.out.block (by omega)))
      obtain ⟨⟨c0, c1, c2, c3, c4, c5, c6, c7, c8⟩, f0, f1, f2, f3, f4, f5, f6, f7, f8⟩ := Box.nine TF.out
      obtain ⟨⟨r0, r1, r2, r3, r4, r5, r6, r7, r8⟩, g0, g1, g2, g3, g4, g5, g6, g7, g8⟩ := Box.nine RF.out
      clear TF RF OF SF
      go_wp2
      exact dany_done (l := l) (k := k) (ms := ms.set ix ⟨(mk ms ix).n, (mk ms ix).x, (mk ms ix).y, (mk ms ix).s, u⟩) RB.out HFit2.out (n := n) (by rw [List.length_set]; exact hn.out) (by omega) OB.out SB.out rfl
    · go_simp
      go_at_call 68
      refine (next_pos B _ _ SF.out.2 (by omega)).mono ?_
      rintro e V1 ⟨r, rfl, r0, r1, hs', hc⟩
      go_wp2_with fail
      obtain ⟨rn, rfl⟩ := Int.eq_ofNat_of_zero_le r0
      have zc := hc.size
      replace TF := Lib.hid (TF.out.chg hc nT)
      replace RF := Lib.hid (RF.out.chg hc nR)
      replace OF := Lib.hid (OF.out.chg hc (OF.out.block (by omega)))
      replace SF := Lib.hid (show SC w B V1 from ⟨SF.out.1.trans hc, hs'⟩)
      replace tc8 := hc.cellOf (a := ⟨T, 8, none⟩) nT tc8
      refine hK.out _ _ tc8 (fun hHeld => ?_)
      clear hK K
      (try simp only [Act.put, Ord.a, Ord.b, Ord.c])
      clear hc hs'
      refine wpAnyH_ready (rs := [3]) (by kernel_rfl) (by simp) ?_
      refine (AllReadyH.cons rfl (fun K hK => ?_) AllReadyH.nil)
      go_simp
      have LB := Box.new (w := V1) (n := V1.heap.size) (vs := [.int .i64 0, .int .i64 5000, .int .i64 5001]) (t := 2) rfl
      have yL : V1.heap.size < (V1.alloc (.cells #[.int .i64 0, .int .i64 5000, .int .i64 5001] 2)).heap.size := by simp
      replace TF := Lib.hid (TF.out.alloc (.cells #[.int .i64 0, .int .i64 5000, .int .i64 5001] 2))
      replace RF := Lib.hid (RF.out.alloc (.cells #[.int .i64 0, .int .i64 5000, .int .i64 5001] 2))
      replace OF := Lib.hid (OF.out.ext ((Ext.refl _).alloc (.cells #[.int .i64 0, .int .i64 5000, .int .i64 5001] 2)))
      have lB0 := SF.out.lt
      have zS0 := SF.out.size
      replace SF := Lib.hid (SF.out.alloc (.cells #[.int .i64 0, .int .i64 5000, .int .i64 5001] 2))
      have lg0 := World.block_lt_of_cell? _ _ tc8
      have nTl : T ≠ V1.heap.size := by simp at lg0; omega
      have ngl : g ≠ V1.heap.size := by have := (World.ownsRow.lt (row_ext OF.out (Ext.refl _)) g rfl).2; have := hgl; omega
      replace tc8 := ((Ext.refl V1).alloc (.cells #[.int .i64 0, .int .i64 5000, .int .i64 5001] 2)).cellOf tc8
      refine hK.out _ _ tc8 (fun hHeld => ?_)
      clear hK K
      (try simp only [Act.put, Ord.a, Ord.b, Ord.c])
      generalize hV : V1.alloc (.cells #[.int .i64 0, .int .i64 5000, .int .i64 5001] 2) = V2 at *
      clear hV
      obtain ⟨u, cu, hu⟩ := tbl_i LB rn (by omega)
      have j0 : (0 : Int) ≤ (rn : Int) := by omega
      have j1 : (rn : Int) < 3 := by omega
      refine Ord.K 6 45 ?_
      refine wpAnyH_ready (rs := [7]) (by kernel_rfl) (by simp) ?_
      refine (AllReadyH.cons rfl (fun K hK => ?_) AllReadyH.nil)
      go_simp
      refine hK.out _ _ tc8 (fun hHeld => ?_)
      clear hK K
      (try simp only [Act.put, Ord.a, Ord.b, Ord.c])
      refine Ord.K 8 47 ?_; refine Ord.K 9 48 ?_
      refine wpAnyH_ready (rs := [10]) (by kernel_rfl) (by simp) ?_
      refine (AllReadyH.cons rfl (fun K hK => ?_) AllReadyH.nil)
      have CE := own_cell OF.out hn.out ix hix
      obtain ⟨⟨e0, e1, e2, e3, e4⟩, h0, h1, h2, h3, h4⟩ := CE
      go_simp
      have ZF : Chg g V2 (V2.setCell ⟨g, ix * 5 + 4, none⟩ (.int .i64 u)) := (Chg.refl _ _).setCell _ _
      have OF2 := Lib.hid (show OwnM (V2.setCell ⟨g, ix * 5 + 4, none⟩ (.int .i64 u)) (w.heap.size + 1) (.slice (some ⟨g, 0, none⟩) n cap) (ms.set ix ⟨(mk ms ix).n, (mk ms ix).x, (mk ms ix).y, (mk ms ix).s, u⟩) from own_set OF.out hn.out ix hix 4 (by omega) _ _ rfl)
      replace TF := Lib.hid (TF.out.chg ZF (by omega))
      replace RF := Lib.hid (RF.out.chg ZF (by omega))
      replace SF := Lib.hid (show SC w B (V2.setCell ⟨g, ix * 5 + 4, none⟩ (.int .i64 u)) from (SF.out.set (by simp; omega) (by simp; omega) _))
      replace tc8 := ZF.cellOf (a := ⟨T, 8, none⟩) (show T ≠ g by omega) tc8
      refine hK.out _ _ tc8 (fun hHeld => ?_)
      clear hK K
      (try simp only [Act.put, Ord.a, Ord.b, Ord.c])
      refine wpAnyH_done (by kernel_rfl) ?_ _
      clear e0 e1 e2 e3 e4 h0 h1 h2 h3 h4 ZF tc8 OF hHeld
      have OF := Lib.hid OF2.out
      clear OF2
      generalize (V2.setCell ⟨g, ix * 5 + 4, none⟩ (.int .i64 u)) = F at *
      have HFit2 := Lib.hid (fit_set HFit.out ix (m := ⟨(mk ms ix).n, (mk ms ix).x, (mk ms ix).y, (mk ms ix).s, u⟩) (hFx.out ix))
      have RB := Lib.hid (Box.put9 RF.out (.int .i64 l.a) (.int .i64 l.b) (.int .i64 l.c) (.int .i64 l.d) (.int .i64 k.a) (.int .i64 k.b) (.int .i64 k.c) (.int .i64 k.d) (.slice (some ⟨g, 0, none⟩) n cap))
      have SB := Lib.hid (SC.put9 SF.out (n := w.heap.size) hB (by omega) (.int .i64 l.a) (.int .i64 l.b) (.int .i64 l.c) (.int .i64 l.d) (.int .i64 k.a) (.int .i64 k.b) (.int .i64 k.c) (.int .i64 k.d) (.slice (some ⟨g, 0, none⟩) n cap))
      have OB := Lib.hid (OF.out.chg (Chg.put9 (n := w.heap.size) (.int .i64 l.a) (.int .i64 l.b) (.int .i64 l.c) (.int .i64 l.d) (.int .i64 k.a) (.int .i64 k.b) (.int .i64 k.c) (.int .i64 k.d) (.slice (some ⟨g, 0, none⟩) n cap)) (OF.out.block (by omega)))
      obtain ⟨⟨c0, c1, c2, c3, c4, c5, c6, c7, c8⟩, f0, f1, f2, f3, f4, f5, f6, f7, f8⟩ := Box.nine TF.out
      obtain ⟨⟨r0, r1, r2, r3, r4, r5, r6, r7, r8⟩, g0, g1, g2, g3, g4, g5, g6, g7, g8⟩ := Box.nine RF.out
      clear TF RF OF SF
      go_wp2
      exact dany_done (l := l) (k := k) (ms := ms.set ix ⟨(mk ms ix).n, (mk ms ix).x, (mk ms ix).y, (mk ms ix).s, u⟩) RB.out HFit2.out (n := n) (by rw [List.length_set]; exact hn.out) (by omega) OB.out SB.out rfl
  · -- way 3
    clear tc8
    obtain ⟨⟨c0, c1, c2, c3, c4, c5, c6, c7, c8⟩, f0, f1, f2, f3, f4, f5, f6, f7, f8⟩ := Box.nine TF.out
    go_upto_region 20 with fail
    have ZF : Chg T w3 ((w3.setCell ⟨T, 6, none⟩ (.int .i64 k.a)).setCell ⟨T, 7, none⟩ (.int .i64 k.b)) := ((Chg.refl _ _).setCell _ _).setCell _ _
    replace TF := Lib.hid (show Box _ T (cellsC l ⟨k.a, k.b, k.a, k.b⟩ (.slice (some ⟨g, 0, none⟩) n cap)) from (TF.out.set 6 (by simp) (.int .i64 k.a)).set 7 (by simp) (.int .i64 k.b))
    replace RF := Lib.hid (RF.out.chg ZF (by omega))
    replace OF := Lib.hid (OF.out.chg ZF (by simp [Value.ownBlock]; omega))
    replace SF := Lib.hid ((SF.out.set (p := ⟨T, 6, none⟩) (by simp; omega) (by simp; omega) (.int .i64 k.a)).set (p := ⟨T, 7, none⟩) (by simp; omega) (by simp; omega) (.int .i64 k.b))
    clear c0 c1 c2 c3 c4 c5 c6 c7 c8 f0 f1 f2 f3 f4 f5 f6 f7 f8 ZF
    generalize ((w3.setCell ⟨T, 6, none⟩ (.int .i64 k.a)).setCell ⟨T, 7, none⟩ (.int .i64 k.b)) = F at *
    obtain ⟨k2, hk2⟩ : ∃ k2 : L4, k2 = ⟨k.a, k.b, k.a, k.b⟩ := ⟨_, rfl⟩
    rw [← hk2] at TF
    clear hk2
    have RB := Lib.hid (Box.put9 RF.out (.int .i64 l.a) (.int .i64 l.b) (.int .i64 l.c) (.int .i64 l.d) (.int .i64 k2.a) (.int .i64 k2.b) (.int .i64 k2.c) (.int .i64 k2.d) (.slice (some ⟨g, 0, none⟩) n cap))
    have SB := Lib.hid (SC.put9 SF.out (n := w.heap.size) hB (by omega) (.int .i64 l.a) (.int .i64 l.b) (.int .i64 l.c) (.int .i64 l.d) (.int .i64 k2.a) (.int .i64 k2.b) (.int .i64 k2.c) (.int .i64 k2.d) (.slice (some ⟨g, 0, none⟩) n cap))
    have OB := Lib.hid (OF.out.chg (Chg.put9 (n := w.heap.size) (.int .i64 l.a) (.int .i64 l.b) (.int .i64 l.c) (.int .i64 l.d) (.int .i64 k2.a) (.int .i64 k2.b) (.int .i64 k2.c) (.int .i64 k2.d) (.slice (some ⟨g, 0, none⟩) n cap)) (OF.out.block (by omega)))
    obtain ⟨⟨c0, c1, c2, c3, c4, c5, c6, c7, c8⟩, f0, f1, f2, f3, f4, f5, f6, f7, f8⟩ := Box.nine TF.out
    obtain ⟨⟨r0, r1, r2, r3, r4, r5, r6, r7, r8⟩, g0, g1, g2, g3, g4, g5, g6, g7, g8⟩ := Box.nine RF.out
    clear TF RF OF SF
    go_wp2
    exact dany_done (l := l) (k := k2) (ms := ms) RB.out HFit.out hn.out (by omega) OB.out SB.out rfl
  · -- way 4
    clear tc8
    obtain ⟨⟨c0, c1, c2, c3, c4, c5, c6, c7, c8⟩, f0, f1, f2, f3, f4, f5, f6, f7, f8⟩ := Box.nine TF.out
    go_upto_region 20 with fail
    have ZF : Chg T w3 (w3.setCell ⟨T, 8, none⟩ (.slice none 0 0)) := (Chg.refl _ _).setCell _ _
    replace TF := Lib.hid (TF.out.set 8 (by simp) (.slice none 0 0))
    replace RF := Lib.hid (RF.out.chg ZF (by omega))
    replace SF := Lib.hid (SF.out.set (p := ⟨T, 8, none⟩) (by simp; omega) (by simp; omega) (.slice none 0 0))
    replace OF := Lib.hid (show OwnM (w3.setCell ⟨T, 8, none⟩ (.slice none 0 0)) (w.heap.size + 1) (.slice none 0 0) [] from World.ownsRow_nil _ _ _ 5)
    clear c0 c1 c2 c3 c4 c5 c6 c7 c8 f0 f1 f2 f3 f4 f5 f6 f7 f8 ZF
    generalize w3.setCell ⟨T, 8, none⟩ (.slice none 0 0) = F at *
    have RB := Lib.hid (Box.put9 RF.out (.int .i64 l.a) (.int .i64 l.b) (.int .i64 l.c) (.int .i64 l.d) (.int .i64 k.a) (.int .i64 k.b) (.int .i64 k.c) (.int .i64 k.d) (.slice none 0 0))
    have SB := Lib.hid (SC.put9 SF.out (n := w.heap.size) hB (by omega) (.int .i64 l.a) (.int .i64 l.b) (.int .i64 l.c) (.int .i64 l.d) (.int .i64 k.a) (.int .i64 k.b) (.int .i64 k.c) (.int .i64 k.d) (.slice none 0 0))
    have OB := Lib.hid (OF.out.chg (Chg.put9 (n := w.heap.size) (.int .i64 l.a) (.int .i64 l.b) (.int .i64 l.c) (.int .i64 l.d) (.int .i64 k.a) (.int .i64 k.b) (.int .i64 k.c) (.int .i64 k.d) (.slice none 0 0)) (OF.out.block (by omega)))
    obtain ⟨⟨c0, c1, c2, c3, c4, c5, c6, c7, c8⟩, f0, f1, f2, f3, f4, f5, f6, f7, f8⟩ := Box.nine TF.out
    obtain ⟨⟨r0, r1, r2, r3, r4, r5, r6, r7, r8⟩, g0, g1, g2, g3, g4, g5, g6, g7, g8⟩ := Box.nine RF.out
    clear TF RF OF SF
    go_wp2
    exact dany_done (l := l) (k := k) (ms := []) RB.out (fun i hi => absurd hi (by simp)) (n := 0) rfl (by omega) OB.out SB.out rfl
  · -- way 5
    have c0 := (TF.out 0 _ rfl).1
    have c1 := (TF.out 1 _ rfl).1
    have c2 := (TF.out 2 _ rfl).1
    have c3 := (TF.out 3 _ rfl).1
    go_upto_region 15 with fail
    refine wp_region_held_drew (S := fun w' => w'.cell? ⟨T, 8, none⟩ = some (.slice (some ⟨g, 0, none⟩) n cap)) (by kernel_rfl) (by (try dsimp only); exact tc8) (fun hHeld => ?_)
    refine Ord.K 0 61 ?_; refine Ord.K 1 62 ?_; refine Ord.K 2 63 ?_; refine Ord.K 3 64 ?_
    replace TF := Lib.hid TF.out.drew
    replace RF := Lib.hid RF.out.drew
    replace OF := Lib.hid (OF.out.ext (Ext.refl w3).drew)
    replace SF := Lib.hid SF.out.drew
    replace tc8 : w3.drew.cell? ⟨T, 8, none⟩ = some (.slice (some ⟨g, 0, none⟩) n cap) := tc8
    have zd : w3.heap.size ≤ w3.drew.heap.size := Nat.le_refl _
    clear c0 c1 c2 c3
    have c0 := (TF.out 0 _ rfl).1
    have c1 := (TF.out 1 _ rfl).1
    have c2 := (TF.out 2 _ rfl).1
    have c3 := (TF.out 3 _ rfl).1
    generalize w3.drew = V0 at *
    refine wpAnyH_ready (rs := [4]) (by kernel_rfl) (by simp) ?_
    refine (AllReadyH.cons rfl (fun K hK => ?_) AllReadyH.nil)
    go_simp
    refine hK.out _ _ tc8 (fun hHeld => ?_)
    clear hK K
    (try simp only [Act.put, Ord.a, Ord.b, Ord.c])
    refine wpAnyH_ready (rs := [5]) (by kernel_rfl) (by simp) ?_
    refine (AllReadyH.cons rfl (fun K hK => ?_) AllReadyH.nil)
    go_simp
    go_at_call 128
    refine (middle_weak _ _ _ _ _).mono ?_
    rintro e V1 ⟨⟨x, y, rfl, _, _⟩, hy⟩
    go_wp2_with fail
    have zc := Ext.size hy
    replace TF := Lib.hid (TF.out.ext hy)
    replace RF := Lib.hid (RF.out.ext hy)
    replace OF := Lib.hid (OF.out.ext hy)
    replace SF := Lib.hid (SF.out.ext hy)
    replace tc8 := hy.cellOf tc8
    refine hK.out _ _ tc8 (fun hHeld => ?_)
    clear hK K
    (try simp only [Act.put, Ord.a, Ord.b, Ord.c])
    clear hy c0 c1 c2 c3
    refine Ord.K 6 67 ?_; refine Ord.K 7 68 ?_
    refine wpAnyH_ready (rs := [8]) (by kernel_rfl) (by simp) ?_
    refine (AllReadyH.cons rfl (fun K hK => ?_) AllReadyH.nil)
    have CE := own_cell OF.out hn.out ix hix
    obtain ⟨⟨e0, e1, e2, e3, e4⟩, h0, h1, h2, h3, h4⟩ := CE
    go_simp
    have ZF : Chg g V1 ((V1.setCell ⟨g, ix * 5 + 1, none⟩ (.int .i64 x)).setCell ⟨g, ix * 5 + 2, none⟩ (.int .i64 y)) := ((Chg.refl _ _).setCell _ _).setCell _ _
    have OF2 := Lib.hid (show OwnM ((V1.setCell ⟨g, ix * 5 + 1, none⟩ (.int .i64 x)).setCell ⟨g, ix * 5 + 2, none⟩ (.int .i64 y)) (w.heap.size + 1) (.slice (some ⟨g, 0, none⟩) n cap) (ms.set ix ⟨(mk ms ix).n, x, y, (mk ms ix).s, (mk ms ix).z⟩) from own_set2 OF.out hn.out ix hix _ _)
    replace TF := Lib.hid (TF.out.chg ZF (by omega))
    replace RF := Lib.hid (RF.out.chg ZF (by omega))
    replace SF := Lib.hid (show SC w B ((V1.setCell ⟨g, ix * 5 + 1, none⟩ (.int .i64 x)).setCell ⟨g, ix * 5 + 2, none⟩ (.int .i64 y)) from ((SF.out.set (by simp; omega) (by simp; omega) _).set (by simp; omega) (by simp; omega) _))
    replace tc8 := ZF.cellOf (a := ⟨T, 8, none⟩) (show T ≠ g by omega) tc8
    refine hK.out _ _ tc8 (fun hHeld => ?_)
    clear hK K
    (try simp only [Act.put, Ord.a, Ord.b, Ord.c])
    refine wpAnyH_done (by kernel_rfl) ?_ _
    clear e0 e1 e2 e3 e4 h0 h1 h2 h3 h4 ZF tc8 OF hHeld
    have OF := Lib.hid OF2.out
    clear OF2
    generalize ((V1.setCell ⟨g, ix * 5 + 1, none⟩ (.int .i64 x)).setCell ⟨g, ix * 5 + 2, none⟩ (.int .i64 y)) = F at *
    have HFit2 := Lib.hid (fit_set HFit.out ix (m := ⟨(mk ms ix).n, x, y, (mk ms ix).s, (mk ms ix).z⟩) (hFx.out ix))
    have RB := Lib.hid (Box.put9 RF.out (.int .i64 l.a) (.int .i64 l.b) (.int .i64 l.c) (.int .i64 l.d) (.int .i64 k.a) (.int .i64 k.b) (.int .i64 k.c) (.int .i64 k.d) (.slice (some ⟨g, 0, none⟩) n cap))
    have SB := Lib.hid (SC.put9 SF.out (n := w.heap.size) hB (by omega) (.int .i64 l.a) (.int .i64 l.b) (.int .i64 l.c) (.int .i64 l.d) (.int .i64 k.a) (.int .i64 k.b) (.int .i64 k.c) (.int .i64 k.d) (.slice (some ⟨g, 0, none⟩) n cap))
    have OB := Lib.hid (OF.out.chg (Chg.put9 (n := w.heap.size) (.int .i64 l.a) (.int .i64 l.b) (.int .i64 l.c) (.int .i64 l.d) (.int .i64 k.a) (.int .i64 k.b) (.int .i64 k.c) (.int .i64 k.d) (.slice (some ⟨g, 0, none⟩) n cap)) (OF.out.block (by omega)))
    obtain ⟨⟨c0, c1, c2, c3, c4, c5, c6, c7, c8⟩, f0, f1, f2, f3, f4, f5, f6, f7, f8⟩ := Box.nine TF.out
    obtain ⟨⟨r0, r1, r2, r3, r4, r5, r6, r7, r8⟩, g0, g1, g2, g3, g4, g5, g6, g7, g8⟩ := Box.nine RF.out
    clear TF RF OF SF
    go_wp2
    exact dany_done (l := l) (k := k) (ms := ms.set ix ⟨(mk ms ix).n, x, y, (mk ms ix).s, (mk ms ix).z⟩) RB.out HFit2.out (n := n) (by rw [List.length_set]; exact hn.out) (by omega) OB.out SB.out rfl
  · -- way 6
    clear tc8
    obtain ⟨ti, hin, hz0, hz1, hz2⟩ := info_parts markInfo
    go_wp2
    go_loopw [5] (fun n wr => RelDa w B T l k wr) (fun n wr => 9 - lenC wr T)
    case atStart => exact ⟨ms, some ⟨g, 0, none⟩, cap, by have := hn.out; omega, HFit.out, by rw [hn.out]; exact OF.out, by simp [Value.ownBlock]; omega, by rw [hn.out]; exact TF.out, RF.out, SF.out⟩
    case round =>
      clear HFit OF TF RF SF hFx hn hix i0 i1 h1 h4
      obtain ⟨ms, ao, cap, h9, hFit, hO, hNB, hTB, hRB, hS⟩ := hrel
      obtain ⟨ao', cap', hv, hnone, hA⟩ := hO.src
      cases hv
      obtain ⟨n, hn⟩ : ∃ n, n = ms.length := ⟨_, rfl⟩
      rw [← hn] at h9 hnone
      have Hn := Lib.hid hn
      have HO := Lib.hid hO
      have HT := Lib.hid hTB
      have HR := Lib.hid hRB
      have HS := Lib.hid hS
      have HFit := Lib.hid hFit
      have HNB := Lib.hid hNB
      have lB := hS.lt
      have zW := hS.size
      have lT := hTB.lt
      have c8 := (hTB 8 _ rfl).1
      rw [← hn] at c8
      have hlen := Lib.hid (lenC_eq c8)
      have eT : ∀ w', SC wr B w' → w'.cell? ⟨T, 8, none⟩ = some (.slice ao n cap) := fun w' h => h.1.cellOf nT c8
      have hS0 : SC wr B wr.drew := SC.drew ⟨Chg.refl _ _, hS.2⟩
      clear hn hO hTB hRB hS hFit hNB hA c8
      have DN : IntKind.i64.wrap (999000 + (n : Int)) = 999000 + (n : Int) := IntWalk.i64_in _ (by omega)
      go_wp2_with fail
      refine wp_region_held_drew (S := (SC wr B)) (by kernel_rfl) (by (try dsimp only); first | go_keep | exact (Ext.refl _).drew | exact Res.new2.drew | exact Res.new4.drew | exact ResB.drew (by assumption) | exact ResC.drew (by assumption) | assumption | exact Ext.drew (by assumption) | exact Res.drew (by assumption)) (fun hHeld => ?_)
      refine Ord.K 0 71 ?_
      refine Ord.K 1 72 ?_
      refine Ord.K 2 73 ?_
      refine Ord.K 3 74 ?_
      (refine wpAnyH_ready (rs := [4]) (by kernel_rfl) (by simp) ?_; refine AllReadyH.cons rfl (fun K hK => ?_) AllReadyH.nil; go_simp; (go_at_call 68; refine (next_pos _ _ _ (by assumption : SC _ _ _).2 (by omega)).mono ?_; rintro e w4 ⟨r4, rfl, r40, r41, S4, c4⟩; have hS4 : SC wr B w4 := ⟨(by assumption : SC _ _ _).1.trans c4, S4⟩; have D4 : IntKind.i64.wrap (8 + r4) = 8 + r4 := IntWalk.i64_in _ (by omega)); go_wp2_with fail; (refine hK.out _ _ (by first | assumption | exact Ext.trans (by assumption) hy | exact Res.ext (by assumption) hy | exact ResB.ext (by assumption) hy | exact ResC.ext (by assumption) hy | (go_split_ands; (repeat' apply And.intro) <;> exact Ext.cellOf hy (by assumption))) (fun hHeld => ?_)); clear hK K; (try simp only [Act.put, Ord.a, Ord.b, Ord.c]))
      refine Ord.K 5 76 ?_
      refine Ord.K 6 77 ?_
      refine wpAnyH_done (by kernel_rfl) ?_ _
      have c5 : SC wr B w4 := hHeld
      have HO4 := Lib.hid (HO.out.chg c5.1 (HO.out.block (by omega)))
      have HT4 := Lib.hid (HT.out.chg c5.1 nT)
      have HR4 := Lib.hid (HR.out.chg c5.1 nR)
      have HS4 := Lib.hid (HS.out.trans c5)
      have z4 := c5.size
      clear c4 c5 eT HO HT HR HS hS0 hHeld S4
      (try clear hS4)
      by_cases hlt : (n : Int) < 8 + r4
      · have n8 : n ≤ 8 := by omega
        go_upto_region 18 with fail
        have eT : ∀ w', Ext w4 w' → w'.cell? ⟨T, 8, none⟩ = some (.slice ao n cap) := fun w' h => h.cellOf (by rw [Hn.out]; exact (HT4.out 8 _ rfl).1)
        have hE0 : Ext w4 w4.drew := (Ext.refl w4).drew
        have q0 : (0 : Int) ≤ (n : Int) := by omega
        have q1 : (n : Int) < 10 := by omega
        go_cut [5] from 71 to 96 (fun s wx => (∃ (P : Nat) (m : M5), s = .pointer (some ⟨P, 0, none⟩) ∧ w4.heap.size ≤ P ∧ m.n.size ≤ maxLen ∧ Box wx P [.string m.n, .int .i64 m.x, .int .i64 m.y, .int .i64 m.s, .int .i64 m.z]) ∧ Ext w4 wx)
        case first =>
          refine wp_region_held_drew (S := fun w' => Ext w4 w') (by kernel_rfl) (by (try dsimp only); exact hE0) (fun hHeld => ?_)
          refine Ord.K 0 78 ?_; refine Ord.K 1 79 ?_; refine Ord.K 2 80 ?_; refine Ord.K 5 83 ?_; refine Ord.K 6 84 ?_; refine Ord.K 7 85 ?_; refine Ord.K 8 86 ?_; refine Ord.K 9 87 ?_
          have hE := hE0
          obtain ⟨V0, hV0⟩ : ∃ V0, V0 = w4.drew := ⟨_, rfl⟩
          rw [← hV0] at hE hHeld ⊢
          clear hV0 eT hE0
          refine wpAnyH_ready (rs := [3, 11]) (by kernel_rfl) (by simp) ?_
          refine (AllReadyH.cons rfl (fun K hK => ?_) (AllReadyH.cons rfl (fun K hK => ?_) AllReadyH.nil))
          · go_simp
            go_at_call 135
            refine (number_one _ _ q0 q1).mono ?_
            rintro e V1 ⟨⟨b, rfl⟩, hy⟩
            go_wp2_with fail
            have hE' := hE.trans hy
            have zc := Ext.size hy
            refine hK.out _ _ hE' (fun hHeld => ?_)
            clear hK K
            (try simp only [Act.put, Ord.a, Ord.b, Ord.c])
            replace hE := hE'
            clear hE' hy
            refine Ord.K 4 82 ?_; refine Ord.K 10 88 ?_
            refine wpAnyH_ready (rs := [11]) (by kernel_rfl) (by simp) ?_
            refine (AllReadyH.cons rfl (fun K hK => ?_) AllReadyH.nil)
            go_simp
            have hE' : Ext w4 (V1.alloc (.cells #[.string ⟨#[]⟩, .int .i64 0, .int .i64 0, .int .i64 0, .int .i64 0] 145)) := hE.alloc _
            refine hK.out _ _ hE' (fun hHeld => ?_)
            clear hK K
            (try simp only [Act.put, Ord.a, Ord.b, Ord.c])
            have PB := Box.new (w := V1) (n := V1.heap.size) (vs := [.string ⟨#[]⟩, .int .i64 0, .int .i64 0, .int .i64 0, .int .i64 0]) (t := 145) rfl
            have zV1 := Ext.size hE
            have yV1 : V1.heap.size < (V1.alloc (.cells #[.string ⟨#[]⟩, .int .i64 0, .int .i64 0, .int .i64 0, .int .i64 0] 145)).heap.size := by simp
            generalize V1.alloc (.cells #[.string ⟨#[]⟩, .int .i64 0, .int .i64 0, .int .i64 0, .int .i64 0] 145) = V2 at *
            replace hE := hE'
            clear hE'
            refine wpAnyH_ready (rs := [12]) (by kernel_rfl) (by simp) ?_
            refine (AllReadyH.cons rfl (fun K hK => ?_) AllReadyH.nil)
            obtain ⟨k0, f0⟩ := PB 0 _ rfl
            obtain ⟨k1, f1⟩ := PB 1 _ rfl
            obtain ⟨k2, f2⟩ := PB 2 _ rfl
            obtain ⟨k3, f3⟩ := PB 3 _ rfl
            obtain ⟨k4, f4⟩ := PB 4 _ rfl
            go_simp
            generalize hnm : (ByteArray.mk #[110] ++ ByteArray.mk #[b]) = nm at *
            have hnz : nm.size ≤ maxLen := by rw [← hnm, ByteArray.size_append]; show 1 + 1 ≤ maxLen; decide
            have hE' : Ext w4 (set5 V2 V1.heap.size (.string nm) (.int .i64 (999000 + (n : Int))) (.int .i64 0) (.int .i64 1) (.int .i64 9)) := ((((hE.setNew (by simp; omega) _).setNew (by simp; omega) _).setNew (by simp; omega) _).setNew (by simp; omega) _).setNew (by simp; omega) _
            refine hK.out _ _ hE' (fun hHeld => ?_)
            clear hK K
            (try simp only [Act.put, Ord.a, Ord.b, Ord.c])
            refine wpAnyH_done (by kernel_rfl) ?_ _
            go_wp2_with fail
            go_meet
            exact ⟨⟨_, ⟨nm, 999000 + (n : Int), 0, 1, 9⟩, rfl, by omega, hnz, Box.set5c PB _ _ _ _ _⟩, hE'⟩
          · go_simp
            have hE' : Ext w4 (V0.alloc (.cells #[.string ⟨#[]⟩, .int .i64 0, .int .i64 0, .int .i64 0, .int .i64 0] 145)) := hE.alloc _
            refine hK.out _ _ hE' (fun hHeld => ?_)
            clear hK K
            (try simp only [Act.put, Ord.a, Ord.b, Ord.c])
            have PB := Box.new (w := V0) (n := V0.heap.size) (vs := [.string ⟨#[]⟩, .int .i64 0, .int .i64 0, .int .i64 0, .int .i64 0]) (t := 145) rfl
            have zV0 := Ext.size hE
            have yV0 : V0.heap.size < (V0.alloc (.cells #[.string ⟨#[]⟩, .int .i64 0, .int .i64 0, .int .i64 0, .int .i64 0] 145)).heap.size := by simp
            generalize V0.alloc (.cells #[.string ⟨#[]⟩, .int .i64 0, .int .i64 0, .int .i64 0, .int .i64 0] 145) = V1 at *
            replace hE := hE'
            clear hE'
            refine wpAnyH_ready (rs := [3]) (by kernel_rfl) (by simp) ?_
            refine (AllReadyH.cons rfl (fun K hK => ?_) AllReadyH.nil)
            go_simp
            go_at_call 135
            refine (number_one _ _ q0 q1).mono ?_
            rintro e V2 ⟨⟨b, rfl⟩, hy⟩
            go_wp2_with fail
            have hE' := hE.trans hy
            have zc := Ext.size hy
            refine hK.out _ _ hE' (fun hHeld => ?_)
            clear hK K
            (try simp only [Act.put, Ord.a, Ord.b, Ord.c])
            replace PB := Box.ext PB hy
            replace hE := hE'
            clear hE' hy
            refine Ord.K 4 82 ?_; refine Ord.K 10 88 ?_
            refine wpAnyH_ready (rs := [12]) (by kernel_rfl) (by simp) ?_
            refine (AllReadyH.cons rfl (fun K hK => ?_) AllReadyH.nil)
            obtain ⟨k0, f0⟩ := PB 0 _ rfl
            obtain ⟨k1, f1⟩ := PB 1 _ rfl
            obtain ⟨k2, f2⟩ := PB 2 _ rfl
            obtain ⟨k3, f3⟩ := PB 3 _ rfl
            obtain ⟨k4, f4⟩ := PB 4 _ rfl
            go_simp
            generalize hnm : (ByteArray.mk #[110] ++ ByteArray.mk #[b]) = nm at *
            have hnz : nm.size ≤ maxLen := by rw [← hnm, ByteArray.size_append]; show 1 + 1 ≤ maxLen; decide
            have hE' : Ext w4 (set5 V2 V0.heap.size (.string nm) (.int .i64 (999000 + (n : Int))) (.int .i64 0) (.int .i64 1) (.int .i64 9)) := ((((hE.setNew (by simp; omega) _).setNew (by simp; omega) _).setNew (by simp; omega) _).setNew (by simp; omega) _).setNew (by simp; omega) _
            refine hK.out _ _ hE' (fun hHeld => ?_)
            clear hK K
            (try simp only [Act.put, Ord.a, Ord.b, Ord.c])
            refine wpAnyH_done (by kernel_rfl) ?_ _
            go_wp2_with fail
            go_meet
            exact ⟨⟨_, ⟨nm, 999000 + (n : Int), 0, 1, 9⟩, rfl, by omega, hnz, Box.set5c PB _ _ _ _ _⟩, hE'⟩
        case rest =>
          obtain ⟨⟨PP, m, rfl, hPP, hmn, hPB⟩, hx⟩ := hcut
          obtain ⟨w5, rfl⟩ : ∃ w5 : World, w5 = wc := ⟨_, rfl⟩
          have HO5 := Lib.hid (HO4.out.ext hx)
          have HT5 := Lib.hid (HT4.out.ext hx)
          have HR5 := Lib.hid (HR4.out.ext hx)
          have HS5 := Lib.hid (HS4.out.ext hx)
          have HPB := Lib.hid hPB
          have z5 := Ext.size hx
          have hl1 : (ms ++ [m]).length = n + 1 := by have := Hn.out; simp; omega
          have HFit' := Lib.hid (fit_snoc HFit.out hmn)
          have hlm : (ms ++ [m]).length ≤ maxLen := by rw [hl1]; unfold maxLen; omega
          obtain ⟨ao', cap', hv', hnone', hA'⟩ := HO5.out.src
          rw [← Hn.out] at hv'
          cases hv'
          have HA := Lib.hid hA'
          have eP : ∀ w', OnT T w5 w' → w'.cell? ⟨PP, 0, none⟩ = some (.string m.n) ∧ w'.cell? ⟨PP, 1, none⟩ = some (.int .i64 m.x) ∧ w'.cell? ⟨PP, 2, none⟩ = some (.int .i64 m.y) ∧ w'.cell? ⟨PP, 3, none⟩ = some (.int .i64 m.s) ∧ w'.cell? ⟨PP, 4, none⟩ = some (.int .i64 m.z) := fun w' h => by have h : Chg T w5 w' := h; have H := HPB.out.chg h (by omega); exact ⟨(H 0 _ rfl).1, (H 1 _ rfl).1, (H 2 _ rfl).1, (H 3 _ rfl).1, (H 4 _ rfl).1⟩
          have eP0 := fun w' h => (eP w' h).1
          have eP1 := fun w' h => (eP w' h).2.1
          have eP2 := fun w' h => (eP w' h).2.2.1
          have eP3 := fun w' h => (eP w' h).2.2.2.1
          have eP4 := fun w' h => (eP w' h).2.2.2.2
          have lT5 := HT5.out.lt
          have P1 := Lib.hid (cellsM_one ms)
          have P2 := Lib.hid (cellsM_len ms)
          rw [← Hn.out] at P2
          replace hnone := Lib.hid hnone
          have hE : Ext w5 w5.drew := (Ext.refl w5).drew
          clear hA' hnone' HO4 HT4 HR4 HS4 hx hPB eT hE0 eP
          go_upto_region 19 with fail
          refine wp_region_held_drew (S := OnT T w5) (by kernel_rfl) (by (try dsimp only); exact Chg.of_ext hE) (fun hHeld => ?_)
          refine Ord.K 1 90 ?_; refine Ord.K 4 93 ?_
          obtain ⟨V0, hV0⟩ : ∃ V0, V0 = w5.drew := ⟨_, rfl⟩
          rw [← hV0] at hE hHeld ⊢
          clear hV0 eP0 eP1 eP2 eP3 eP4
          have zV0 := Ext.size hE
          have tc8 : V0.cell? ⟨T, 8, none⟩ = some (.slice ao n cap) := hE.cellOf (by rw [Hn.out]; exact (HT5.out 8 _ rfl).1)
          refine wpAnyH_ready (rs := [0, 2, 5]) (by kernel_rfl) (by simp) ?_
          refine (AllReadyH.cons rfl (fun K hK => ?_) (AllReadyH.cons rfl (fun K hK => ?_) (AllReadyH.cons rfl (fun K hK => ?_) AllReadyH.nil)))
          · go_simp
            have hE' : Ext w5 (V0.alloc (.cells #[] 145)) := hE.alloc _
            refine hK.out _ _ (Chg.of_ext hE') (fun hHeld => ?_)
            clear hK K
            (try simp only [Act.put, Ord.a, Ord.b, Ord.c])
            replace tc8 := ((Ext.refl V0).alloc (.cells #[] 145)).cellOf tc8
            have O1 : (V0.alloc (.cells #[] 145)).ownsRow V0.heap.size 145 5 (.slice (some ⟨V0.heap.size, 0, none⟩) 0 0) 0 [] := World.ownsRow_lit (base := V0.heap.size) (e := 145) (size := 5) V0 #[] 0 (Nat.le_refl _) (by unfold maxLen; omega) rfl
            have yV0 : V0.heap.size < (V0.alloc (.cells #[] 145)).heap.size := by simp
            have zV0 := Ext.size hE
            generalize V0.alloc (.cells #[] 145) = V1 at *
            replace hE := hE'
            clear hE'
            have zV1 := Ext.size hE
            refine wpAnyH_ready (rs := [2, 5]) (by kernel_rfl) (by simp) ?_
            refine (AllReadyH.cons rfl (fun K hK => ?_) (AllReadyH.cons rfl (fun K hK => ?_) AllReadyH.nil))
            · go_simp
              refine hK.out _ _ (Chg.of_ext hE) (fun hHeld => ?_)
              clear hK K
              (try simp only [Act.put, Ord.a, Ord.b, Ord.c])
              clear tc8
              refine wpAnyH_ready (rs := [3, 5]) (by kernel_rfl) (by simp) ?_
              refine (AllReadyH.cons rfl (fun K hK => ?_) (AllReadyH.cons rfl (fun K hK => ?_) AllReadyH.nil))
              · refine step_append_at rfl (.tmp 89) (.tmp 91) 28 rfl V0.heap.size 145 ti (.agg zeroM) 5 48 Tryz.underlying28 hin hz0 hz1 hz2 rfl (by decide) (.slice (some ⟨V0.heap.size, 0, none⟩) 0 0) 0 [] (by simp [Act.eval, Act.put]) O1 ao n cap (cellsM ms) (by simp [Act.eval, Act.put]) hnone.out P2.out (fun ad h j u hu => hE.cellOf (HA.out ad h j u hu)) P1.out (by unfold maxLen; omega) (by omega) (by omega) ?_
                intro v1 V3 hown hgrow hat
                have zG := hgrow.size
                have hE' : Ext w5 V3 := row_grown (w0 := w5) O1 hgrow (by omega) hE
                have OV := Lib.hid (show V3.ownsRow V0.heap.size 145 5 v1 n (cellsM ms) by simpa using hown)
                clear hown O1 hat hgrow
                refine hK.out _ _ (Chg.of_ext hE') (fun hHeld => ?_)
                clear hK K
                (try simp only [Act.put, Ord.a, Ord.b, Ord.c])
                replace hE := hE'
                clear hE'
                have zV3 := Ext.size hE
                refine wpAnyH_ready (rs := [5]) (by kernel_rfl) (by simp) ?_
                refine (AllReadyH.cons rfl (fun K hK => ?_) AllReadyH.nil)
                · go_simp
                  have hE' : Ext w5 (V3.alloc (.cells #[.string m.n, .int .i64 m.x, .int .i64 m.y, .int .i64 m.s, .int .i64 m.z] 145)) := hE.alloc _
                  refine hK.out _ _ (Chg.of_ext hE') (fun hHeld => ?_)
                  clear hK K
                  (try simp only [Act.put, Ord.a, Ord.b, Ord.c])
                  replace OV := Lib.hid (row_ext OV.out ((Ext.refl V3).alloc (.cells #[.string m.n, .int .i64 m.x, .int .i64 m.y, .int .i64 m.s, .int .i64 m.z] 145)))
                  have E1 := Box.new (w := V3) (n := V3.heap.size) (vs := [.string m.n, .int .i64 m.x, .int .i64 m.y, .int .i64 m.s, .int .i64 m.z]) (t := 145) rfl
                  have yV3 : V3.heap.size < (V3.alloc (.cells #[.string m.n, .int .i64 m.x, .int .i64 m.y, .int .i64 m.s, .int .i64 m.z] 145)).heap.size := by simp
                  have zV3 := Ext.size hE
                  generalize V3.alloc (.cells #[.string m.n, .int .i64 m.x, .int .i64 m.y, .int .i64 m.s, .int .i64 m.z] 145) = V4 at *
                  replace hE := hE'
                  clear hE'
                  have zV4 := Ext.size hE
                  refine wpAnyH_ready (rs := [6]) (by kernel_rfl) (by simp) ?_
                  refine (AllReadyH.cons rfl (fun K hK => ?_) AllReadyH.nil)
                  · refine step_append_at rfl (.tmp 92) (.tmp 94) 28 rfl V0.heap.size 145 ti (.agg zeroM) 5 48 Tryz.underlying28 hin hz0 hz1 hz2 rfl (by decide) v1 n (cellsM ms) (by simp [Act.eval, Act.put]) OV.out (some ⟨V3.heap.size, 0, none⟩) 1 1 [.string m.n, .int .i64 m.x, .int .i64 m.y, .int .i64 m.s, .int .i64 m.z] (by simp [Act.eval, Act.put]) (fun h => by cases h) rfl (fun ad h j u hu => by cases h; exact box_at E1 j u hu) (ones9 m) (by unfold maxLen; omega) (by omega) (by omega) ?_
                    intro v2 V5 hown hgrow hat
                    have zG := hgrow.size
                    have hE' : Ext w5 V5 := row_grown (w0 := w5) OV.out hgrow (by omega) hE
                    have OW0 : OwnM V5 V0.heap.size v2 (ms ++ [m]) := own_snoc (show V5.ownsRow V0.heap.size 145 5 v2 (ms.length + 1) (cellsM ms ++ [.string m.n, .int .i64 m.x, .int .i64 m.y, .int .i64 m.s, .int .i64 m.z]) by rw [← Hn.out]; exact hown)
                    obtain ⟨a1, cap1, rfl, -⟩ := OW0.mks ⟨hlm, HFit'.out⟩
                    rw [hl1] at OW0 ⊢
                    have NW := Lib.hid (OW0.block (B := T) (by omega))
                    replace NW := NW.out
                    have OW := Lib.hid (row_mono (b2 := w.heap.size + 1) OW0 (by omega))
                    clear hown OV hat hgrow E1 OW0
                    refine hK.out _ _ (Chg.of_ext hE') (fun hHeld => ?_)
                    clear hK K
                    (try simp only [Act.put, Ord.a, Ord.b, Ord.c])
                    replace hE := hE'
                    clear hE'
                    have zV5 := Ext.size hE
                    refine Ord.K 7 96 ?_
                    refine wpAnyH_ready (rs := [8]) (by kernel_rfl) (by simp) ?_
                    refine (AllReadyH.cons rfl (fun K hK => ?_) AllReadyH.nil)
                    have TX := HT5.out.ext hE
                    obtain ⟨x8, y8⟩ := TX 8 _ rfl
                    go_simp
                    have hC' : OnT T w5 (V5.setCell ⟨T, 8, none⟩ (.slice a1 (n + 1) cap1)) := (Chg.of_ext hE).setCell 8 _
                    have hR := rel_da (w := w) (B := B) (T := T) (l := l) (k := k) (by rw [hl1]; omega) HFit'.out OW.out NW hlm TX (HR5.out.ext hE) (HS5.out.ext hE) (by omega) hTw
                    have HRel := Lib.hid hR
                    rw [hl1] at HRel
                    refine hK.out _ _ hC' (fun hHeld => ?_)
                    clear hK K
                    (try simp only [Act.put, Ord.a, Ord.b, Ord.c])
                    refine wpAnyH_done (by kernel_rfl) ?_ _
                    clear hR TX x8 y8 hC' hHeld OW hE HO5 HT5 HR5 HS5 HPB HA
                    go_wp2
                    go_roundw
                    case rel => first | exact HRel.out.1 | ((repeat apply Exists.intro); exact ⟨HRel.out.1, rfl⟩)
                    case measure => rw [HRel.out.2, hlen.out]; omega
              · go_simp
                have hE' : Ext w5 (V1.alloc (.cells #[.string m.n, .int .i64 m.x, .int .i64 m.y, .int .i64 m.s, .int .i64 m.z] 145)) := hE.alloc _
                refine hK.out _ _ (Chg.of_ext hE') (fun hHeld => ?_)
                clear hK K
                (try simp only [Act.put, Ord.a, Ord.b, Ord.c])
                replace O1 := row_ext O1 ((Ext.refl V1).alloc (.cells #[.string m.n, .int .i64 m.x, .int .i64 m.y, .int .i64 m.s, .int .i64 m.z] 145))
                have E1 := Box.new (w := V1) (n := V1.heap.size) (vs := [.string m.n, .int .i64 m.x, .int .i64 m.y, .int .i64 m.s, .int .i64 m.z]) (t := 145) rfl
                have yV1 : V1.heap.size < (V1.alloc (.cells #[.string m.n, .int .i64 m.x, .int .i64 m.y, .int .i64 m.s, .int .i64 m.z] 145)).heap.size := by simp
                have zV1 := Ext.size hE
                generalize V1.alloc (.cells #[.string m.n, .int .i64 m.x, .int .i64 m.y, .int .i64 m.s, .int .i64 m.z] 145) = V3 at *
                replace hE := hE'
                clear hE'
                have zV3 := Ext.size hE
                refine wpAnyH_ready (rs := [3]) (by kernel_rfl) (by simp) ?_
                refine (AllReadyH.cons rfl (fun K hK => ?_) AllReadyH.nil)
                · refine step_append_at rfl (.tmp 89) (.tmp 91) 28 rfl V0.heap.size 145 ti (.agg zeroM) 5 48 Tryz.underlying28 hin hz0 hz1 hz2 rfl (by decide) (.slice (some ⟨V0.heap.size, 0, none⟩) 0 0) 0 [] (by simp [Act.eval, Act.put]) O1 ao n cap (cellsM ms) (by simp [Act.eval, Act.put]) hnone.out P2.out (fun ad h j u hu => hE.cellOf (HA.out ad h j u hu)) P1.out (by unfold maxLen; omega) (by omega) (by omega) ?_
                  intro v1 V4 hown hgrow hat
                  have zG := hgrow.size
                  have hE' : Ext w5 V4 := row_grown (w0 := w5) O1 hgrow (by omega) hE
                  have OV := Lib.hid (show V4.ownsRow V0.heap.size 145 5 v1 n (cellsM ms) by simpa using hown)
                  replace E1 := box_grown9 E1 hgrow (by simp [Value.ownBlock]; omega)
                  clear hown O1 hat hgrow
                  refine hK.out _ _ (Chg.of_ext hE') (fun hHeld => ?_)
                  clear hK K
                  (try simp only [Act.put, Ord.a, Ord.b, Ord.c])
                  replace hE := hE'
                  clear hE'
                  have zV4 := Ext.size hE
                  refine wpAnyH_ready (rs := [6]) (by kernel_rfl) (by simp) ?_
                  refine (AllReadyH.cons rfl (fun K hK => ?_) AllReadyH.nil)
                  · refine step_append_at rfl (.tmp 92) (.tmp 94) 28 rfl V0.heap.size 145 ti (.agg zeroM) 5 48 Tryz.underlying28 hin hz0 hz1 hz2 rfl (by decide) v1 n (cellsM ms) (by simp [Act.eval, Act.put]) OV.out (some ⟨V1.heap.size, 0, none⟩) 1 1 [.string m.n, .int .i64 m.x, .int .i64 m.y, .int .i64 m.s, .int .i64 m.z] (by simp [Act.eval, Act.put]) (fun h => by cases h) rfl (fun ad h j u hu => by cases h; exact box_at E1 j u hu) (ones9 m) (by unfold maxLen; omega) (by omega) (by omega) ?_
                    intro v2 V5 hown hgrow hat
                    have zG := hgrow.size
                    have hE' : Ext w5 V5 := row_grown (w0 := w5) OV.out hgrow (by omega) hE
                    have OW0 : OwnM V5 V0.heap.size v2 (ms ++ [m]) := own_snoc (show V5.ownsRow V0.heap.size 145 5 v2 (ms.length + 1) (cellsM ms ++ [.string m.n, .int .i64 m.x, .int .i64 m.y, .int .i64 m.s, .int .i64 m.z]) by rw [← Hn.out]; exact hown)
                    obtain ⟨a1, cap1, rfl, -⟩ := OW0.mks ⟨hlm, HFit'.out⟩
                    rw [hl1] at OW0 ⊢
                    have NW := Lib.hid (OW0.block (B := T) (by omega))
                    replace NW := NW.out
                    have OW := Lib.hid (row_mono (b2 := w.heap.size + 1) OW0 (by omega))
                    clear hown OV hat hgrow E1 OW0
                    refine hK.out _ _ (Chg.of_ext hE') (fun hHeld => ?_)
                    clear hK K
                    (try simp only [Act.put, Ord.a, Ord.b, Ord.c])
                    replace hE := hE'
                    clear hE'
                    have zV5 := Ext.size hE
                    refine Ord.K 7 96 ?_
                    refine wpAnyH_ready (rs := [8]) (by kernel_rfl) (by simp) ?_
                    refine (AllReadyH.cons rfl (fun K hK => ?_) AllReadyH.nil)
                    have TX := HT5.out.ext hE
                    obtain ⟨x8, y8⟩ := TX 8 _ rfl
                    go_simp
                    have hC' : OnT T w5 (V5.setCell ⟨T, 8, none⟩ (.slice a1 (n + 1) cap1)) := (Chg.of_ext hE).setCell 8 _
                    have hR := rel_da (w := w) (B := B) (T := T) (l := l) (k := k) (by rw [hl1]; omega) HFit'.out OW.out NW hlm TX (HR5.out.ext hE) (HS5.out.ext hE) (by omega) hTw
                    have HRel := Lib.hid hR
                    rw [hl1] at HRel
                    refine hK.out _ _ hC' (fun hHeld => ?_)
                    clear hK K
                    (try simp only [Act.put, Ord.a, Ord.b, Ord.c])
                    refine wpAnyH_done (by kernel_rfl) ?_ _
                    clear hR TX x8 y8 hC' hHeld OW hE HO5 HT5 HR5 HS5 HPB HA
                    go_wp2
                    go_roundw
                    case rel => first | exact HRel.out.1 | ((repeat apply Exists.intro); exact ⟨HRel.out.1, rfl⟩)
                    case measure => rw [HRel.out.2, hlen.out]; omega
            · go_simp
              have hE' : Ext w5 (V1.alloc (.cells #[.string m.n, .int .i64 m.x, .int .i64 m.y, .int .i64 m.s, .int .i64 m.z] 145)) := hE.alloc _
              refine hK.out _ _ (Chg.of_ext hE') (fun hHeld => ?_)
              clear hK K
              (try simp only [Act.put, Ord.a, Ord.b, Ord.c])
              replace O1 := row_ext O1 ((Ext.refl V1).alloc (.cells #[.string m.n, .int .i64 m.x, .int .i64 m.y, .int .i64 m.s, .int .i64 m.z] 145))
              replace tc8 := ((Ext.refl V1).alloc (.cells #[.string m.n, .int .i64 m.x, .int .i64 m.y, .int .i64 m.s, .int .i64 m.z] 145)).cellOf tc8
              have E1 := Box.new (w := V1) (n := V1.heap.size) (vs := [.string m.n, .int .i64 m.x, .int .i64 m.y, .int .i64 m.s, .int .i64 m.z]) (t := 145) rfl
              have yV1 : V1.heap.size < (V1.alloc (.cells #[.string m.n, .int .i64 m.x, .int .i64 m.y, .int .i64 m.s, .int .i64 m.z] 145)).heap.size := by simp
              have zV1 := Ext.size hE
              generalize V1.alloc (.cells #[.string m.n, .int .i64 m.x, .int .i64 m.y, .int .i64 m.s, .int .i64 m.z] 145) = V2 at *
              replace hE := hE'
              clear hE'
              have zV2 := Ext.size hE
              refine wpAnyH_ready (rs := [2]) (by kernel_rfl) (by simp) ?_
              refine (AllReadyH.cons rfl (fun K hK => ?_) AllReadyH.nil)
              · go_simp
                refine hK.out _ _ (Chg.of_ext hE) (fun hHeld => ?_)
                clear hK K
                (try simp only [Act.put, Ord.a, Ord.b, Ord.c])
                clear tc8
                refine wpAnyH_ready (rs := [3]) (by kernel_rfl) (by simp) ?_
                refine (AllReadyH.cons rfl (fun K hK => ?_) AllReadyH.nil)
                · refine step_append_at rfl (.tmp 89) (.tmp 91) 28 rfl V0.heap.size 145 ti (.agg zeroM) 5 48 Tryz.underlying28 hin hz0 hz1 hz2 rfl (by decide) (.slice (some ⟨V0.heap.size, 0, none⟩) 0 0) 0 [] (by simp [Act.eval, Act.put]) O1 ao n cap (cellsM ms) (by simp [Act.eval, Act.put]) hnone.out P2.out (fun ad h j u hu => hE.cellOf (HA.out ad h j u hu)) P1.out (by unfold maxLen; omega) (by omega) (by omega) ?_
                  intro v1 V4 hown hgrow hat
                  have zG := hgrow.size
                  have hE' : Ext w5 V4 := row_grown (w0 := w5) O1 hgrow (by omega) hE
                  have OV := Lib.hid (show V4.ownsRow V0.heap.size 145 5 v1 n (cellsM ms) by simpa using hown)
                  replace E1 := box_grown9 E1 hgrow (by simp [Value.ownBlock]; omega)
                  clear hown O1 hat hgrow
                  refine hK.out _ _ (Chg.of_ext hE') (fun hHeld => ?_)
                  clear hK K
                  (try simp only [Act.put, Ord.a, Ord.b, Ord.c])
                  replace hE := hE'
                  clear hE'
                  have zV4 := Ext.size hE
                  refine wpAnyH_ready (rs := [6]) (by kernel_rfl) (by simp) ?_
                  refine (AllReadyH.cons rfl (fun K hK => ?_) AllReadyH.nil)
                  · refine step_append_at rfl (.tmp 92) (.tmp 94) 28 rfl V0.heap.size 145 ti (.agg zeroM) 5 48 Tryz.underlying28 hin hz0 hz1 hz2 rfl (by decide) v1 n (cellsM ms) (by simp [Act.eval, Act.put]) OV.out (some ⟨V1.heap.size, 0, none⟩) 1 1 [.string m.n, .int .i64 m.x, .int .i64 m.y, .int .i64 m.s, .int .i64 m.z] (by simp [Act.eval, Act.put]) (fun h => by cases h) rfl (fun ad h j u hu => by cases h; exact box_at E1 j u hu) (ones9 m) (by unfold maxLen; omega) (by omega) (by omega) ?_
                    intro v2 V5 hown hgrow hat
                    have zG := hgrow.size
                    have hE' : Ext w5 V5 := row_grown (w0 := w5) OV.out hgrow (by omega) hE
                    have OW0 : OwnM V5 V0.heap.size v2 (ms ++ [m]) := own_snoc (show V5.ownsRow V0.heap.size 145 5 v2 (ms.length + 1) (cellsM ms ++ [.string m.n, .int .i64 m.x, .int .i64 m.y, .int .i64 m.s, .int .i64 m.z]) by rw [← Hn.out]; exact hown)
                    obtain ⟨a1, cap1, rfl, -⟩ := OW0.mks ⟨hlm, HFit'.out⟩
                    rw [hl1] at OW0 ⊢
                    have NW := Lib.hid (OW0.block (B := T) (by omega))
                    replace NW := NW.out
                    have OW := Lib.hid (row_mono (b2 := w.heap.size + 1) OW0 (by omega))
                    clear hown OV hat hgrow E1 OW0
                    refine hK.out _ _ (Chg.of_ext hE') (fun hHeld => ?_)
                    clear hK K
                    (try simp only [Act.put, Ord.a, Ord.b, Ord.c])
                    replace hE := hE'
                    clear hE'
                    have zV5 := Ext.size hE
                    refine Ord.K 7 96 ?_
                    refine wpAnyH_ready (rs := [8]) (by kernel_rfl) (by simp) ?_
                    refine (AllReadyH.cons rfl (fun K hK => ?_) AllReadyH.nil)
                    have TX := HT5.out.ext hE
                    obtain ⟨x8, y8⟩ := TX 8 _ rfl
                    go_simp
                    have hC' : OnT T w5 (V5.setCell ⟨T, 8, none⟩ (.slice a1 (n + 1) cap1)) := (Chg.of_ext hE).setCell 8 _
                    have hR := rel_da (w := w) (B := B) (T := T) (l := l) (k := k) (by rw [hl1]; omega) HFit'.out OW.out NW hlm TX (HR5.out.ext hE) (HS5.out.ext hE) (by omega) hTw
                    have HRel := Lib.hid hR
                    rw [hl1] at HRel
                    refine hK.out _ _ hC' (fun hHeld => ?_)
                    clear hK K
                    (try simp only [Act.put, Ord.a, Ord.b, Ord.c])
                    refine wpAnyH_done (by kernel_rfl) ?_ _
                    clear hR TX x8 y8 hC' hHeld OW hE HO5 HT5 HR5 HS5 HPB HA
                    go_wp2
                    go_roundw
                    case rel => first | exact HRel.out.1 | ((repeat apply Exists.intro); exact ⟨HRel.out.1, rfl⟩)
                    case measure => rw [HRel.out.2, hlen.out]; omega
          · go_simp
            refine hK.out _ _ (Chg.of_ext hE) (fun hHeld => ?_)
            clear hK K
            (try simp only [Act.put, Ord.a, Ord.b, Ord.c])
            clear tc8
            refine wpAnyH_ready (rs := [0, 5]) (by kernel_rfl) (by simp) ?_
            refine (AllReadyH.cons rfl (fun K hK => ?_) (AllReadyH.cons rfl (fun K hK => ?_) AllReadyH.nil))
            · go_simp
              have hE' : Ext w5 (V0.alloc (.cells #[] 145)) := hE.alloc _
              refine hK.out _ _ (Chg.of_ext hE') (fun hHeld => ?_)
              clear hK K
              (try simp only [Act.put, Ord.a, Ord.b, Ord.c])
              have O1 : (V0.alloc (.cells #[] 145)).ownsRow V0.heap.size 145 5 (.slice (some ⟨V0.heap.size, 0, none⟩) 0 0) 0 [] := World.ownsRow_lit (base := V0.heap.size) (e := 145) (size := 5) V0 #[] 0 (Nat.le_refl _) (by unfold maxLen; omega) rfl
              have yV0 : V0.heap.size < (V0.alloc (.cells #[] 145)).heap.size := by simp
              have zV0 := Ext.size hE
              generalize V0.alloc (.cells #[] 145) = V2 at *
              replace hE := hE'
              clear hE'
              have zV2 := Ext.size hE
              refine wpAnyH_ready (rs := [3, 5]) (by kernel_rfl) (by simp) ?_
              refine (AllReadyH.cons rfl (fun K hK => ?_) (AllReadyH.cons rfl (fun K hK => ?_) AllReadyH.nil))
              · refine step_append_at rfl (.tmp 89) (.tmp 91) 28 rfl V0.heap.size 145 ti (.agg zeroM) 5 48 Tryz.underlying28 hin hz0 hz1 hz2 rfl (by decide) (.slice (some ⟨V0.heap.size, 0, none⟩) 0 0) 0 [] (by simp [Act.eval, Act.put]) O1 ao n cap (cellsM ms) (by simp [Act.eval, Act.put]) hnone.out P2.out (fun ad h j u hu => hE.cellOf (HA.out ad h j u hu)) P1.out (by unfold maxLen; omega) (by omega) (by omega) ?_
                intro v1 V3 hown hgrow hat
                have zG := hgrow.size
                have hE' : Ext w5 V3 := row_grown (w0 := w5) O1 hgrow (by omega) hE
                have OV := Lib.hid (show V3.ownsRow V0.heap.size 145 5 v1 n (cellsM ms) by simpa using hown)
                clear hown O1 hat hgrow
                refine hK.out _ _ (Chg.of_ext hE') (fun hHeld => ?_)
                clear hK K
                (try simp only [Act.put, Ord.a, Ord.b, Ord.c])
                replace hE := hE'
                clear hE'
                have zV3 := Ext.size hE
                refine wpAnyH_ready (rs := [5]) (by kernel_rfl) (by simp) ?_
                refine (AllReadyH.cons rfl (fun K hK => ?_) AllReadyH.nil)
                · go_simp
                  have hE' : Ext w5 (V3.alloc (.cells #[.string m.n, .int .i64 m.x, .int .i64 m.y, .int .i64 m.s, .int .i64 m.z] 145)) := hE.alloc _
                  refine hK.out _ _ (Chg.of_ext hE') (fun hHeld => ?_)
                  clear hK K
                  (try simp only [Act.put, Ord.a, Ord.b, Ord.c])
                  replace OV := Lib.hid (row_ext OV.out ((Ext.refl V3).alloc (.cells #[.string m.n, .int .i64 m.x, .int .i64 m.y, .int .i64 m.s, .int .i64 m.z] 145)))
                  have E1 := Box.new (w := V3) (n := V3.heap.size) (vs := [.string m.n, .int .i64 m.x, .int .i64 m.y, .int .i64 m.s, .int .i64 m.z]) (t := 145) rfl
                  have yV3 : V3.heap.size < (V3.alloc (.cells #[.string m.n, .int .i64 m.x, .int .i64 m.y, .int .i64 m.s, .int .i64 m.z] 145)).heap.size := by simp
                  have zV3 := Ext.size hE
                  generalize V3.alloc (.cells #[.string m.n, .int .i64 m.x, .int .i64 m.y, .int .i64 m.s, .int .i64 m.z] 145) = V4 at *
                  replace hE := hE'
                  clear hE'
                  have zV4 := Ext.size hE
                  refine wpAnyH_ready (rs := [6]) (by kernel_rfl) (by simp) ?_
                  refine (AllReadyH.cons rfl (fun K hK => ?_) AllReadyH.nil)
                  · refine step_append_at rfl (.tmp 92) (.tmp 94) 28 rfl V0.heap.size 145 ti (.agg zeroM) 5 48 Tryz.underlying28 hin hz0 hz1 hz2 rfl (by decide) v1 n (cellsM ms) (by simp [Act.eval, Act.put]) OV.out (some ⟨V3.heap.size, 0, none⟩) 1 1 [.string m.n, .int .i64 m.x, .int .i64 m.y, .int .i64 m.s, .int .i64 m.z] (by simp [Act.eval, Act.put]) (fun h => by cases h) rfl (fun ad h j u hu => by cases h; exact box_at E1 j u hu) (ones9 m) (by unfold maxLen; omega) (by omega) (by omega) ?_
                    intro v2 V5 hown hgrow hat
                    have zG := hgrow.size
                    have hE' : Ext w5 V5 := row_grown (w0 := w5) OV.out hgrow (by omega) hE
                    have OW0 : OwnM V5 V0.heap.size v2 (ms ++ [m]) := own_snoc (show V5.ownsRow V0.heap.size 145 5 v2 (ms.length + 1) (cellsM ms ++ [.string m.n, .int .i64 m.x, .int .i64 m.y, .int .i64 m.s, .int .i64 m.z]) by rw [← Hn.out]; exact hown)
                    obtain ⟨a1, cap1, rfl, -⟩ := OW0.mks ⟨hlm, HFit'.out⟩
                    rw [hl1] at OW0 ⊢
                    have NW := Lib.hid (OW0.block (B := T) (by omega))
                    replace NW := NW.out
                    have OW := Lib.hid (row_mono (b2 := w.heap.size + 1) OW0 (by omega))
                    clear hown OV hat hgrow E1 OW0
                    refine hK.out _ _ (Chg.of_ext hE') (fun hHeld => ?_)
                    clear hK K
                    (try simp only [Act.put, Ord.a, Ord.b, Ord.c])
                    replace hE := hE'
                    clear hE'
                    have zV5 := Ext.size hE
                    refine Ord.K 7 96 ?_
                    refine wpAnyH_ready (rs := [8]) (by kernel_rfl) (by simp) ?_
                    refine (AllReadyH.cons rfl (fun K hK => ?_) AllReadyH.nil)
                    have TX := HT5.out.ext hE
                    obtain ⟨x8, y8⟩ := TX 8 _ rfl
                    go_simp
                    have hC' : OnT T w5 (V5.setCell ⟨T, 8, none⟩ (.slice a1 (n + 1) cap1)) := (Chg.of_ext hE).setCell 8 _
                    have hR := rel_da (w := w) (B := B) (T := T) (l := l) (k := k) (by rw [hl1]; omega) HFit'.out OW.out NW hlm TX (HR5.out.ext hE) (HS5.out.ext hE) (by omega) hTw
                    have HRel := Lib.hid hR
                    rw [hl1] at HRel
                    refine hK.out _ _ hC' (fun hHeld => ?_)
                    clear hK K
                    (try simp only [Act.put, Ord.a, Ord.b, Ord.c])
                    refine wpAnyH_done (by kernel_rfl) ?_ _
                    clear hR TX x8 y8 hC' hHeld OW hE HO5 HT5 HR5 HS5 HPB HA
                    go_wp2
                    go_roundw
                    case rel => first | exact HRel.out.1 | ((repeat apply Exists.intro); exact ⟨HRel.out.1, rfl⟩)
                    case measure => rw [HRel.out.2, hlen.out]; omega
              · go_simp
                have hE' : Ext w5 (V2.alloc (.cells #[.string m.n, .int .i64 m.x, .int .i64 m.y, .int .i64 m.s, .int .i64 m.z] 145)) := hE.alloc _
                refine hK.out _ _ (Chg.of_ext hE') (fun hHeld => ?_)
                clear hK K
                (try simp only [Act.put, Ord.a, Ord.b, Ord.c])
                replace O1 := row_ext O1 ((Ext.refl V2).alloc (.cells #[.string m.n, .int .i64 m.x, .int .i64 m.y, .int .i64 m.s, .int .i64 m.z] 145))
                have E1 := Box.new (w := V2) (n := V2.heap.size) (vs := [.string m.n, .int .i64 m.x, .int .i64 m.y, .int .i64 m.s, .int .i64 m.z]) (t := 145) rfl
                have yV2 : V2.heap.size < (V2.alloc (.cells #[.string m.n, .int .i64 m.x, .int .i64 m.y, .int .i64 m.s, .int .i64 m.z] 145)).heap.size := by simp
                have zV2 := Ext.size hE
                generalize V2.alloc (.cells #[.string m.n, .int .i64 m.x, .int .i64 m.y, .int .i64 m.s, .int .i64 m.z] 145) = V3 at *
                replace hE := hE'
                clear hE'
                have zV3 := Ext.size hE
                refine wpAnyH_ready (rs := [3]) (by kernel_rfl) (by simp) ?_
                refine (AllReadyH.cons rfl (fun K hK => ?_) AllReadyH.nil)
                · refine step_append_at rfl (.tmp 89) (.tmp 91) 28 rfl V0.heap.size 145 ti (.agg zeroM) 5 48 Tryz.underlying28 hin hz0 hz1 hz2 rfl (by decide) (.slice (some ⟨V0.heap.size, 0, none⟩) 0 0) 0 [] (by simp [Act.eval, Act.put]) O1 ao n cap (cellsM ms) (by simp [Act.eval, Act.put]) hnone.out P2.out (fun ad h j u hu => hE.cellOf (HA.out ad h j u hu)) P1.out (by unfold maxLen; omega) (by omega) (by omega) ?_
                  intro v1 V4 hown hgrow hat
                  have zG := hgrow.size
                  have hE' : Ext w5 V4 := row_grown (w0 := w5) O1 hgrow (by omega) hE
                  have OV := Lib.hid (show V4.ownsRow V0.heap.size 145 5 v1 n (cellsM ms) by simpa using hown)
                  replace E1 := box_grown9 E1 hgrow (by simp [Value.ownBlock]; omega)
                  clear hown O1 hat hgrow
                  refine hK.out _ _ (Chg.of_ext hE') (fun hHeld => ?_)
                  clear hK K
                  (try simp only [Act.put, Ord.a, Ord.b, Ord.c])
                  replace hE := hE'
                  clear hE'
                  have zV4 := Ext.size hE
                  refine wpAnyH_ready (rs := [6]) (by kernel_rfl) (by simp) ?_
                  refine (AllReadyH.cons rfl (fun K hK => ?_) AllReadyH.nil)
                  · refine step_append_at rfl (.tmp 92) (.tmp 94) 28 rfl V0.heap.size 145 ti (.agg zeroM) 5 48 Tryz.underlying28 hin hz0 hz1 hz2 rfl (by decide) v1 n (cellsM ms) (by simp [Act.eval, Act.put]) OV.out (some ⟨V2.heap.size, 0, none⟩) 1 1 [.string m.n, .int .i64 m.x, .int .i64 m.y, .int .i64 m.s, .int .i64 m.z] (by simp [Act.eval, Act.put]) (fun h => by cases h) rfl (fun ad h j u hu => by cases h; exact box_at E1 j u hu) (ones9 m) (by unfold maxLen; omega) (by omega) (by omega) ?_
                    intro v2 V5 hown hgrow hat
                    have zG := hgrow.size
                    have hE' : Ext w5 V5 := row_grown (w0 := w5) OV.out hgrow (by omega) hE
                    have OW0 : OwnM V5 V0.heap.size v2 (ms ++ [m]) := own_snoc (show V5.ownsRow V0.heap.size 145 5 v2 (ms.length + 1) (cellsM ms ++ [.string m.n, .int .i64 m.x, .int .i64 m.y, .int .i64 m.s, .int .i64 m.z]) by rw [← Hn.out]; exact hown)
                    obtain ⟨a1, cap1, rfl, -⟩ := OW0.mks ⟨hlm, HFit'.out⟩
                    rw [hl1] at OW0 ⊢
                    have NW := Lib.hid (OW0.block (B := T) (by omega))
                    replace NW := NW.out
                    have OW := Lib.hid (row_mono (b2 := w.heap.size + 1) OW0 (by omega))
                    clear hown OV hat hgrow E1 OW0
                    refine hK.out _ _ (Chg.of_ext hE') (fun hHeld => ?_)
                    clear hK K
                    (try simp only [Act.put, Ord.a, Ord.b, Ord.c])
                    replace hE := hE'
                    clear hE'
                    have zV5 := Ext.size hE
                    refine Ord.K 7 96 ?_
                    refine wpAnyH_ready (rs := [8]) (by kernel_rfl) (by simp) ?_
                    refine (AllReadyH.cons rfl (fun K hK => ?_) AllReadyH.nil)
                    have TX := HT5.out.ext hE
                    obtain ⟨x8, y8⟩ := TX 8 _ rfl
                    go_simp
                    have hC' : OnT T w5 (V5.setCell ⟨T, 8, none⟩ (.slice a1 (n + 1) cap1)) := (Chg.of_ext hE).setCell 8 _
                    have hR := rel_da (w := w) (B := B) (T := T) (l := l) (k := k) (by rw [hl1]; omega) HFit'.out OW.out NW hlm TX (HR5.out.ext hE) (HS5.out.ext hE) (by omega) hTw
                    have HRel := Lib.hid hR
                    rw [hl1] at HRel
                    refine hK.out _ _ hC' (fun hHeld => ?_)
                    clear hK K
                    (try simp only [Act.put, Ord.a, Ord.b, Ord.c])
                    refine wpAnyH_done (by kernel_rfl) ?_ _
                    clear hR TX x8 y8 hC' hHeld OW hE HO5 HT5 HR5 HS5 HPB HA
                    go_wp2
                    go_roundw
                    case rel => first | exact HRel.out.1 | ((repeat apply Exists.intro); exact ⟨HRel.out.1, rfl⟩)
                    case measure => rw [HRel.out.2, hlen.out]; omega
            · go_simp
              have hE' : Ext w5 (V0.alloc (.cells #[.string m.n, .int .i64 m.x, .int .i64 m.y, .int .i64 m.s, .int .i64 m.z] 145)) := hE.alloc _
              refine hK.out _ _ (Chg.of_ext hE') (fun hHeld => ?_)
              clear hK K
              (try simp only [Act.put, Ord.a, Ord.b, Ord.c])
              have E1 := Box.new (w := V0) (n := V0.heap.size) (vs := [.string m.n, .int .i64 m.x, .int .i64 m.y, .int .i64 m.s, .int .i64 m.z]) (t := 145) rfl
              have yV0 : V0.heap.size < (V0.alloc (.cells #[.string m.n, .int .i64 m.x, .int .i64 m.y, .int .i64 m.s, .int .i64 m.z] 145)).heap.size := by simp
              have zV0 := Ext.size hE
              generalize V0.alloc (.cells #[.string m.n, .int .i64 m.x, .int .i64 m.y, .int .i64 m.s, .int .i64 m.z] 145) = V2 at *
              replace hE := hE'
              clear hE'
              have zV2 := Ext.size hE
              refine wpAnyH_ready (rs := [0]) (by kernel_rfl) (by simp) ?_
              refine (AllReadyH.cons rfl (fun K hK => ?_) AllReadyH.nil)
              · go_simp
                have hE' : Ext w5 (V2.alloc (.cells #[] 145)) := hE.alloc _
                refine hK.out _ _ (Chg.of_ext hE') (fun hHeld => ?_)
                clear hK K
                (try simp only [Act.put, Ord.a, Ord.b, Ord.c])
                replace E1 := Box.alloc E1 (.cells #[] 145)
                have O1 : (V2.alloc (.cells #[] 145)).ownsRow V2.heap.size 145 5 (.slice (some ⟨V2.heap.size, 0, none⟩) 0 0) 0 [] := World.ownsRow_lit (base := V2.heap.size) (e := 145) (size := 5) V2 #[] 0 (Nat.le_refl _) (by unfold maxLen; omega) rfl
                have yV2 : V2.heap.size < (V2.alloc (.cells #[] 145)).heap.size := by simp
                have zV2 := Ext.size hE
                generalize V2.alloc (.cells #[] 145) = V3 at *
                replace hE := hE'
                clear hE'
                have zV3 := Ext.size hE
                refine wpAnyH_ready (rs := [3]) (by kernel_rfl) (by simp) ?_
                refine (AllReadyH.cons rfl (fun K hK => ?_) AllReadyH.nil)
                · refine step_append_at rfl (.tmp 89) (.tmp 91) 28 rfl V2.heap.size 145 ti (.agg zeroM) 5 48 Tryz.underlying28 hin hz0 hz1 hz2 rfl (by decide) (.slice (some ⟨V2.heap.size, 0, none⟩) 0 0) 0 [] (by simp [Act.eval, Act.put]) O1 ao n cap (cellsM ms) (by simp [Act.eval, Act.put]) hnone.out P2.out (fun ad h j u hu => hE.cellOf (HA.out ad h j u hu)) P1.out (by unfold maxLen; omega) (by omega) (by omega) ?_
                  intro v1 V4 hown hgrow hat
                  have zG := hgrow.size
                  have hE' : Ext w5 V4 := row_grown (w0 := w5) O1 hgrow (by omega) hE
                  have OV := Lib.hid (show V4.ownsRow V2.heap.size 145 5 v1 n (cellsM ms) by simpa using hown)
                  replace E1 := box_grown9 E1 hgrow (by simp [Value.ownBlock]; omega)
                  clear hown O1 hat hgrow
                  refine hK.out _ _ (Chg.of_ext hE') (fun hHeld => ?_)
                  clear hK K
                  (try simp only [Act.put, Ord.a, Ord.b, Ord.c])
                  replace hE := hE'
                  clear hE'
                  have zV4 := Ext.size hE
                  refine wpAnyH_ready (rs := [6]) (by kernel_rfl) (by simp) ?_
                  refine (AllReadyH.cons rfl (fun K hK => ?_) AllReadyH.nil)
                  · refine step_append_at rfl (.tmp 92) (.tmp 94) 28 rfl V2.heap.size 145 ti (.agg zeroM) 5 48 Tryz.underlying28 hin hz0 hz1 hz2 rfl (by decide) v1 n (cellsM ms) (by simp [Act.eval, Act.put]) OV.out (some ⟨V0.heap.size, 0, none⟩) 1 1 [.string m.n, .int .i64 m.x, .int .i64 m.y, .int .i64 m.s, .int .i64 m.z] (by simp [Act.eval, Act.put]) (fun h => by cases h) rfl (fun ad h j u hu => by cases h; exact box_at E1 j u hu) (ones9 m) (by unfold maxLen; omega) (by omega) (by omega) ?_
                    intro v2 V5 hown hgrow hat
                    have zG := hgrow.size
                    have hE' : Ext w5 V5 := row_grown (w0 := w5) OV.out hgrow (by omega) hE
                    have OW0 : OwnM V5 V2.heap.size v2 (ms ++ [m]) := own_snoc (show V5.ownsRow V2.heap.size 145 5 v2 (ms.length + 1) (cellsM ms ++ [.string m.n, .int .i64 m.x, .int .i64 m.y, .int .i64 m.s, .int .i64 m.z]) by rw [← Hn.out]; exact hown)
                    obtain ⟨a1, cap1, rfl, -⟩ := OW0.mks ⟨hlm, HFit'.out⟩
                    rw [hl1] at OW0 ⊢
                    have NW := Lib.hid (OW0.block (B := T) (by omega))
                    replace NW := NW.out
                    have OW := Lib.hid (row_mono (b2 := w.heap.size + 1) OW0 (by omega))
                    clear hown OV hat hgrow E1 OW0
                    refine hK.out _ _ (Chg.of_ext hE') (fun hHeld => ?_)
                    clear hK K
                    (try simp only [Act.put, Ord.a, Ord.b, Ord.c])
                    replace hE := hE'
                    clear hE'
                    have zV5 := Ext.size hE
                    refine Ord.K 7 96 ?_
                    refine wpAnyH_ready (rs := [8]) (by kernel_rfl) (by simp) ?_
                    refine (AllReadyH.cons rfl (fun K hK => ?_) AllReadyH.nil)
                    have TX := HT5.out.ext hE
                    obtain ⟨x8, y8⟩ := TX 8 _ rfl
                    go_simp
                    have hC' : OnT T w5 (V5.setCell ⟨T, 8, none⟩ (.slice a1 (n + 1) cap1)) := (Chg.of_ext hE).setCell 8 _
                    have hR := rel_da (w := w) (B := B) (T := T) (l := l) (k := k) (by rw [hl1]; omega) HFit'.out OW.out NW hlm TX (HR5.out.ext hE) (HS5.out.ext hE) (by omega) hTw
                    have HRel := Lib.hid hR
                    rw [hl1] at HRel
                    refine hK.out _ _ hC' (fun hHeld => ?_)
                    clear hK K
                    (try simp only [Act.put, Ord.a, Ord.b, Ord.c])
                    refine wpAnyH_done (by kernel_rfl) ?_ _
                    clear hR TX x8 y8 hC' hHeld OW hE HO5 HT5 HR5 HS5 HPB HA
                    go_wp2
                    go_roundw
                    case rel => first | exact HRel.out.1 | ((repeat apply Exists.intro); exact ⟨HRel.out.1, rfl⟩)
                    case measure => rw [HRel.out.2, hlen.out]; omega
          · go_simp
            have hE' : Ext w5 (V0.alloc (.cells #[.string m.n, .int .i64 m.x, .int .i64 m.y, .int .i64 m.s, .int .i64 m.z] 145)) := hE.alloc _
            refine hK.out _ _ (Chg.of_ext hE') (fun hHeld => ?_)
            clear hK K
            (try simp only [Act.put, Ord.a, Ord.b, Ord.c])
            replace tc8 := ((Ext.refl V0).alloc (.cells #[.string m.n, .int .i64 m.x, .int .i64 m.y, .int .i64 m.s, .int .i64 m.z] 145)).cellOf tc8
            have E1 := Box.new (w := V0) (n := V0.heap.size) (vs := [.string m.n, .int .i64 m.x, .int .i64 m.y, .int .i64 m.s, .int .i64 m.z]) (t := 145) rfl
            have yV0 : V0.heap.size < (V0.alloc (.cells #[.string m.n, .int .i64 m.x, .int .i64 m.y, .int .i64 m.s, .int .i64 m.z] 145)).heap.size := by simp
            have zV0 := Ext.size hE
            generalize V0.alloc (.cells #[.string m.n, .int .i64 m.x, .int .i64 m.y, .int .i64 m.s, .int .i64 m.z] 145) = V1 at *
            replace hE := hE'
            clear hE'
            have zV1 := Ext.size hE
            refine wpAnyH_ready (rs := [0, 2]) (by kernel_rfl) (by simp) ?_
            refine (AllReadyH.cons rfl (fun K hK => ?_) (AllReadyH.cons rfl (fun K hK => ?_) AllReadyH.nil))
            · go_simp
              have hE' : Ext w5 (V1.alloc (.cells #[] 145)) := hE.alloc _
              refine hK.out _ _ (Chg.of_ext hE') (fun hHeld => ?_)
              clear hK K
              (try simp only [Act.put, Ord.a, Ord.b, Ord.c])
              replace E1 := Box.alloc E1 (.cells #[] 145)
              replace tc8 := ((Ext.refl V1).alloc (.cells #[] 145)).cellOf tc8
              have O1 : (V1.alloc (.cells #[] 145)).ownsRow V1.heap.size 145 5 (.slice (some ⟨V1.heap.size, 0, none⟩) 0 0) 0 [] := World.ownsRow_lit (base := V1.heap.size) (e := 145) (size := 5) V1 #[] 0 (Nat.le_refl _) (by unfold maxLen; omega) rfl
              have yV1 : V1.heap.size < (V1.alloc (.cells #[] 145)).heap.size := by simp
              have zV1 := Ext.size hE
              generalize V1.alloc (.cells #[] 145) = V2 at *
              replace hE := hE'
              clear hE'
              have zV2 := Ext.size hE
              refine wpAnyH_ready (rs := [2]) (by kernel_rfl) (by simp) ?_
              refine (AllReadyH.cons rfl (fun K hK => ?_) AllReadyH.nil)
              · go_simp
                refine hK.out _ _ (Chg.of_ext hE) (fun hHeld => ?_)
                clear hK K
                (try simp only [Act.put, Ord.a, Ord.b, Ord.c])
                clear tc8
                refine wpAnyH_ready (rs := [3]) (by kernel_rfl) (by simp) ?_
                refine (AllReadyH.cons rfl (fun K hK => ?_) AllReadyH.nil)
                · refine step_append_at rfl (.tmp 89) (.tmp 91) 28 rfl V1.heap.size 145 ti (.agg zeroM) 5 48 Tryz.underlying28 hin hz0 hz1 hz2 rfl (by decide) (.slice (some ⟨V1.heap.size, 0, none⟩) 0 0) 0 [] (by simp [Act.eval, Act.put]) O1 ao n cap (cellsM ms) (by simp [Act.eval, Act.put]) hnone.out P2.out (fun ad h j u hu => hE.cellOf (HA.out ad h j u hu)) P1.out (by unfold maxLen; omega) (by omega) (by omega) ?_
                  intro v1 V4 hown hgrow hat
                  have zG := hgrow.size
                  have hE' : Ext w5 V4 := row_grown (w0 := w5) O1 hgrow (by omega) hE
                  have OV := Lib.hid (show V4.ownsRow V1.heap.size 145 5 v1 n (cellsM ms) by simpa using hown)
                  replace E1 := box_grown9 E1 hgrow (by simp [Value.ownBlock]; omega)
                  clear hown O1 hat hgrow
                  refine hK.out _ _ (Chg.of_ext hE') (fun hHeld => ?_)
                  clear hK K
                  (try simp only [Act.put, Ord.a, Ord.b, Ord.c])
                  replace hE := hE'
                  clear hE'
                  have zV4 := Ext.size hE
                  refine wpAnyH_ready (rs := [6]) (by kernel_rfl) (by simp) ?_
                  refine (AllReadyH.cons rfl (fun K hK => ?_) AllReadyH.nil)
                  · refine step_append_at rfl (.tmp 92) (.tmp 94) 28 rfl V1.heap.size 145 ti (.agg zeroM) 5 48 Tryz.underlying28 hin hz0 hz1 hz2 rfl (by decide) v1 n (cellsM ms) (by simp [Act.eval, Act.put]) OV.out (some ⟨V0.heap.size, 0, none⟩) 1 1 [.string m.n, .int .i64 m.x, .int .i64 m.y, .int .i64 m.s, .int .i64 m.z] (by simp [Act.eval, Act.put]) (fun h => by cases h) rfl (fun ad h j u hu => by cases h; exact box_at E1 j u hu) (ones9 m) (by unfold maxLen; omega) (by omega) (by omega) ?_
                    intro v2 V5 hown hgrow hat
                    have zG := hgrow.size
                    have hE' : Ext w5 V5 := row_grown (w0 := w5) OV.out hgrow (by omega) hE
                    have OW0 : OwnM V5 V1.heap.size v2 (ms ++ [m]) := own_snoc (show V5.ownsRow V1.heap.size 145 5 v2 (ms.length + 1) (cellsM ms ++ [.string m.n, .int .i64 m.x, .int .i64 m.y, .int .i64 m.s, .int .i64 m.z]) by rw [← Hn.out]; exact hown)
                    obtain ⟨a1, cap1, rfl, -⟩ := OW0.mks ⟨hlm, HFit'.out⟩
                    rw [hl1] at OW0 ⊢
                    have NW := Lib.hid (OW0.block (B := T) (by omega))
                    replace NW := NW.out
                    have OW := Lib.hid (row_mono (b2 := w.heap.size + 1) OW0 (by omega))
                    clear hown OV hat hgrow E1 OW0
                    refine hK.out _ _ (Chg.of_ext hE') (fun hHeld => ?_)
                    clear hK K
                    (try simp only [Act.put, Ord.a, Ord.b, Ord.c])
                    replace hE := hE'
                    clear hE'
                    have zV5 := Ext.size hE
                    refine Ord.K 7 96 ?_
                    refine wpAnyH_ready (rs := [8]) (by kernel_rfl) (by simp) ?_
                    refine (AllReadyH.cons rfl (fun K hK => ?_) AllReadyH.nil)
                    have TX := HT5.out.ext hE
                    obtain ⟨x8, y8⟩ := TX 8 _ rfl
                    go_simp
                    have hC' : OnT T w5 (V5.setCell ⟨T, 8, none⟩ (.slice a1 (n + 1) cap1)) := (Chg.of_ext hE).setCell 8 _
                    have hR := rel_da (w := w) (B := B) (T := T) (l := l) (k := k) (by rw [hl1]; omega) HFit'.out OW.out NW hlm TX (HR5.out.ext hE) (HS5.out.ext hE) (by omega) hTw
                    have HRel := Lib.hid hR
                    rw [hl1] at HRel
                    refine hK.out _ _ hC' (fun hHeld => ?_)
                    clear hK K
                    (try simp only [Act.put, Ord.a, Ord.b, Ord.c])
                    refine wpAnyH_done (by kernel_rfl) ?_ _
                    clear hR TX x8 y8 hC' hHeld OW hE HO5 HT5 HR5 HS5 HPB HA
                    go_wp2
                    go_roundw
                    case rel => first | exact HRel.out.1 | ((repeat apply Exists.intro); exact ⟨HRel.out.1, rfl⟩)
                    case measure => rw [HRel.out.2, hlen.out]; omega
            · go_simp
              refine hK.out _ _ (Chg.of_ext hE) (fun hHeld => ?_)
              clear hK K
              (try simp only [Act.put, Ord.a, Ord.b, Ord.c])
              clear tc8
              refine wpAnyH_ready (rs := [0]) (by kernel_rfl) (by simp) ?_
              refine (AllReadyH.cons rfl (fun K hK => ?_) AllReadyH.nil)
              · go_simp
                have hE' : Ext w5 (V1.alloc (.cells #[] 145)) := hE.alloc _
                refine hK.out _ _ (Chg.of_ext hE') (fun hHeld => ?_)
                clear hK K
                (try simp only [Act.put, Ord.a, Ord.b, Ord.c])
                replace E1 := Box.alloc E1 (.cells #[] 145)
                have O1 : (V1.alloc (.cells #[] 145)).ownsRow V1.heap.size 145 5 (.slice (some ⟨V1.heap.size, 0, none⟩) 0 0) 0 [] := World.ownsRow_lit (base := V1.heap.size) (e := 145) (size := 5) V1 #[] 0 (Nat.le_refl _) (by unfold maxLen; omega) rfl
                have yV1 : V1.heap.size < (V1.alloc (.cells #[] 145)).heap.size := by simp
                have zV1 := Ext.size hE
                generalize V1.alloc (.cells #[] 145) = V3 at *
                replace hE := hE'
                clear hE'
                have zV3 := Ext.size hE
                refine wpAnyH_ready (rs := [3]) (by kernel_rfl) (by simp) ?_
                refine (AllReadyH.cons rfl (fun K hK => ?_) AllReadyH.nil)
                · refine step_append_at rfl (.tmp 89) (.tmp 91) 28 rfl V1.heap.size 145 ti (.agg zeroM) 5 48 Tryz.underlying28 hin hz0 hz1 hz2 rfl (by decide) (.slice (some ⟨V1.heap.size, 0, none⟩) 0 0) 0 [] (by simp [Act.eval, Act.put]) O1 ao n cap (cellsM ms) (by simp [Act.eval, Act.put]) hnone.out P2.out (fun ad h j u hu => hE.cellOf (HA.out ad h j u hu)) P1.out (by unfold maxLen; omega) (by omega) (by omega) ?_
                  intro v1 V4 hown hgrow hat
                  have zG := hgrow.size
                  have hE' : Ext w5 V4 := row_grown (w0 := w5) O1 hgrow (by omega) hE
                  have OV := Lib.hid (show V4.ownsRow V1.heap.size 145 5 v1 n (cellsM ms) by simpa using hown)
                  replace E1 := box_grown9 E1 hgrow (by simp [Value.ownBlock]; omega)
                  clear hown O1 hat hgrow
                  refine hK.out _ _ (Chg.of_ext hE') (fun hHeld => ?_)
                  clear hK K
                  (try simp only [Act.put, Ord.a, Ord.b, Ord.c])
                  replace hE := hE'
                  clear hE'
                  have zV4 := Ext.size hE
                  refine wpAnyH_ready (rs := [6]) (by kernel_rfl) (by simp) ?_
                  refine (AllReadyH.cons rfl (fun K hK => ?_) AllReadyH.nil)
                  · refine step_append_at rfl (.tmp 92) (.tmp 94) 28 rfl V1.heap.size 145 ti (.agg zeroM) 5 48 Tryz.underlying28 hin hz0 hz1 hz2 rfl (by decide) v1 n (cellsM ms) (by simp [Act.eval, Act.put]) OV.out (some ⟨V0.heap.size, 0, none⟩) 1 1 [.string m.n, .int .i64 m.x, .int .i64 m.y, .int .i64 m.s, .int .i64 m.z] (by simp [Act.eval, Act.put]) (fun h => by cases h) rfl (fun ad h j u hu => by cases h; exact box_at E1 j u hu) (ones9 m) (by unfold maxLen; omega) (by omega) (by omega) ?_
                    intro v2 V5 hown hgrow hat
                    have zG := hgrow.size
                    have hE' : Ext w5 V5 := row_grown (w0 := w5) OV.out hgrow (by omega) hE
                    have OW0 : OwnM V5 V1.heap.size v2 (ms ++ [m]) := own_snoc (show V5.ownsRow V1.heap.size 145 5 v2 (ms.length + 1) (cellsM ms ++ [.string m.n, .int .i64 m.x, .int .i64 m.y, .int .i64 m.s, .int .i64 m.z]) by rw [← Hn.out]; exact hown)
                    obtain ⟨a1, cap1, rfl, -⟩ := OW0.mks ⟨hlm, HFit'.out⟩
                    rw [hl1] at OW0 ⊢
                    have NW := Lib.hid (OW0.block (B := T) (by omega))
                    replace NW := NW.out
                    have OW := Lib.hid (row_mono (b2 := w.heap.size + 1) OW0 (by omega))
                    clear hown OV hat hgrow E1 OW0
                    refine hK.out _ _ (Chg.of_ext hE') (fun hHeld => ?_)
                    clear hK K
                    (try simp only [Act.put, Ord.a, Ord.b, Ord.c])
                    replace hE := hE'
                    clear hE'
                    have zV5 := Ext.size hE
                    refine Ord.K 7 96 ?_
                    refine wpAnyH_ready (rs := [8]) (by kernel_rfl) (by simp) ?_
                    refine (AllReadyH.cons rfl (fun K hK => ?_) AllReadyH.nil)
                    have TX := HT5.out.ext hE
                    obtain ⟨x8, y8⟩ := TX 8 _ rfl
                    go_simp
                    have hC' : OnT T w5 (V5.setCell ⟨T, 8, none⟩ (.slice a1 (n + 1) cap1)) := (Chg.of_ext hE).setCell 8 _
                    have hR := rel_da (w := w) (B := B) (T := T) (l := l) (k := k) (by rw [hl1]; omega) HFit'.out OW.out NW hlm TX (HR5.out.ext hE) (HS5.out.ext hE) (by omega) hTw
                    have HRel := Lib.hid hR
                    rw [hl1] at HRel
                    refine hK.out _ _ hC' (fun hHeld => ?_)
                    clear hK K
                    (try simp only [Act.put, Ord.a, Ord.b, Ord.c])
                    refine wpAnyH_done (by kernel_rfl) ?_ _
                    clear hR TX x8 y8 hC' hHeld OW hE HO5 HT5 HR5 HS5 HPB HA
                    go_wp2
                    go_roundw
                    case rel => first | exact HRel.out.1 | ((repeat apply Exists.intro); exact ⟨HRel.out.1, rfl⟩)
                    case measure => rw [HRel.out.2, hlen.out]; omega
      · have TF := HT4
        have RF := HR4
        have OF := HO4
        have SF := HS4
        clear HT4 HR4 HO4 HS4
        have RB := Lib.hid (Box.put9 RF.out (.int .i64 l.a) (.int .i64 l.b) (.int .i64 l.c) (.int .i64 l.d) (.int .i64 k.a) (.int .i64 k.b) (.int .i64 k.c) (.int .i64 k.d) (.slice ao ms.length cap))
        have SB := Lib.hid (SC.put9 SF.out (n := w.heap.size) hB (by omega) (.int .i64 l.a) (.int .i64 l.b) (.int .i64 l.c) (.int .i64 l.d) (.int .i64 k.a) (.int .i64 k.b) (.int .i64 k.c) (.int .i64 k.d) (.slice ao ms.length cap))
        have OB := Lib.hid (OF.out.chg (Chg.put9 (n := w.heap.size) (.int .i64 l.a) (.int .i64 l.b) (.int .i64 l.c) (.int .i64 l.d) (.int .i64 k.a) (.int .i64 k.b) (.int .i64 k.c) (.int .i64 k.d) (.slice ao ms.length cap)) (OF.out.block (by omega)))
        obtain ⟨⟨c0, c1, c2, c3, c4, c5, c6, c7, c8⟩, f0, f1, f2, f3, f4, f5, f6, f7, f8⟩ := Box.nine TF.out
        obtain ⟨⟨r0, r1, r2, r3, r4, r5, r6, r7, r8⟩, g0, g1, g2, g3, g4, g5, g6, g7, g8⟩ := Box.nine RF.out
        clear TF RF OF SF
        go_wp2
        exact dany_done (l := l) (k := k) (ms := ms) RB.out HFit.out Hn.out.symm (by omega) OB.out SB.out rfl
  · -- way 7
    clear tc8
    have RB := Lib.hid (Box.put9 RF.out (.int .i64 l.a) (.int .i64 l.b) (.int .i64 l.c) (.int .i64 l.d) (.int .i64 k.a) (.int .i64 k.b) (.int .i64 k.c) (.int .i64 k.d) (.slice (some ⟨g, 0, none⟩) n cap))
    have SB := Lib.hid (SC.put9 SF.out (n := w.heap.size) hB (by omega) (.int .i64 l.a) (.int .i64 l.b) (.int .i64 l.c) (.int .i64 l.d) (.int .i64 k.a) (.int .i64 k.b) (.int .i64 k.c) (.int .i64 k.d) (.slice (some ⟨g, 0, none⟩) n cap))
    have OB := Lib.hid (OF.out.chg (Chg.put9 (n := w.heap.size) (.int .i64 l.a) (.int .i64 l.b) (.int .i64 l.c) (.int .i64 l.d) (.int .i64 k.a) (.int .i64 k.b) (.int .i64 k.c) (.int .i64 k.d) (.slice (some ⟨g, 0, none⟩) n cap)) (OF.out.block (by omega)))
    obtain ⟨⟨c0, c1, c2, c3, c4, c5, c6, c7, c8⟩, f0, f1, f2, f3, f4, f5, f6, f7, f8⟩ := Box.nine TF.out
    obtain ⟨⟨r0, r1, r2, r3, r4, r5, r6, r7, r8⟩, g0, g1, g2, g3, g4, g5, g6, g7, g8⟩ := Box.nine RF.out
    clear TF RF OF SF
    go_wp2
    exact dany_done (l := l) (k := k) (ms := ms) RB.out HFit.out hn.out (by omega) OB.out SB.out rfl
end Go.Proofs.YtmlojndkpnhalaaGreat.Crs
