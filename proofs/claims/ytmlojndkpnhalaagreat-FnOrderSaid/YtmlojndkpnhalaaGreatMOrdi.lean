import Derived.Test.YtmlojndkpnhalaaGreatKys3
import Derived.Test.YtmlojndkpnhalaaGreatMLns2
import Derived.Test.YtmlojndkpnhalaaGreatMTms
import Derived.Test.YtmlojndkpnhalaaGreatMSai
import Derived.Maps.AppendAt
namespace Go.Proofs.YtmlojndkpnhalaaGreat.Crs
open Go.ChangeShapes Go.WideShapes Go.ChangeAt Go.RowKit Go.PlainAid
open Go.Proofs.YtmlojndkpnhalaaGreat.Num Go.Proofs.YtmlojndkpnhalaaGreat.Kit Go.Proofs.YtmlojndkpnhalaaGreat.Pts Go.Proofs.YtmlojndkpnhalaaGreat.Seg Go.Proofs.YtmlojndkpnhalaaGreat.Div Go.Proofs.YtmlojndkpnhalaaGreat.Root Go.Proofs.YtmlojndkpnhalaaGreat.Rt
open Go.Proofs.YtmlojndkpnhalaaGreat.Trk (F3 Fxs Tr trB)
set_option linter.unusedVariables false
set_option linter.unusedSimpArgs false
def pgO (ls : List L4) (ts : List T1) (t : Int) (i : Nat) : Int × Int := ((rcN (tmL (tk ts i).fs ls 0) t : Int), pgT (tmL (tk ts i).fs ls 0) t)
def oaC (l k : L4) (ms : List M5) (ts : List T1) : Int := if 16 < ts.length then 3 else lcC l k ms (tsB ts)
def oaZ (l k : L4) (ms : List M5) (ts : List T1) (t : Int) : List Int := if oaC l k ms ts = 0 then zO (ordO (pgO (stS l k ms) ts t) ts.length) else []
theorem oa_many {l k : L4} {ms : List M5} {ts : List T1} {t : Int} (h : 16 < ts.length) : oaC l k ms ts = 3 ∧ oaZ l k ms ts t = [] := by
  have e : oaC l k ms ts = 3 := if_pos h
  exact ⟨e, by unfold oaZ; rw [e]; rfl⟩
theorem oa_bad {l k : L4} {ms : List M5} {ts : List T1} {t : Int} (h : ¬ 16 < ts.length) (g : lcC l k ms (tsB ts) ≠ 0) : oaC l k ms ts = lcC l k ms (tsB ts) ∧ oaZ l k ms ts t = [] := by
  have e : oaC l k ms ts = lcC l k ms (tsB ts) := if_neg h
  exact ⟨e, by unfold oaZ; rw [e, if_neg g]⟩
theorem oa_yes {l k : L4} {ms : List M5} {ts : List T1} {t : Int} (h : ¬ 16 < ts.length) (g : lcC l k ms (tsB ts) = 0) : oaC l k ms ts = 0 ∧ oaZ l k ms ts t = zO (ordO (pgO (stS l k ms) ts t) ts.length) := by
  have e : oaC l k ms ts = 0 := by unfold oaC; rw [if_neg h]; exact g
  exact ⟨e, by unfold oaZ; rw [e]; rfl⟩
theorem tsB_at {ts : List T1} (h : tsB ts = true) {j : Nat} (hj : j < ts.length) : trB (tk ts j).fs = true := List.all_eq_true.1 h j (by simpa using hj)
theorem pg_wf {fs : List F3} {ls : List L4} {t : Int} (hv : trB fs = true) (h : ∀ p ∈ ls, sgB p.a p.b p.c p.d = true) (h10 : ls.length ≤ 10) : pW ((rcN (tmL fs ls 0) t : Int), pgT (tmL fs ls 0) t) := by
  have hb := (tm_bd hv ls 0 h).1
  have h1 := rc_le (tmL fs ls 0) t
  have h2 := tmL_len fs ls 0
  refine ⟨?_, ?_⟩
  · simp [Lit.wf, IntKind.min, IntKind.max, IntKind.signed, IntKind.bits]; omega
  · show (Lit.int .i64 (pgT (tmL fs ls 0) t)).wf = true
    unfold pgT
    split
    · decide
    · rename_i g
      have hi : rcN (tmL fs ls 0) t - 1 < (tmL fs ls 0).length := by omega
      have hm := List.mem_of_getElem? (nz_at hi)
      have := hb _ hm
      simp [Lit.wf, IntKind.min, IntKind.max, IntKind.signed, IntKind.bits]; omega
theorem Gm.look {w : World} {b base : Nat} {pg : Nat → Int × Int} {n : Nat} (h : Gm w b base pg n) {p : Int × Int} (hp : pW p) (hi : ∃ i, i < n ∧ pg i = p) : ∃ v, (Instr.lookup 128 (.map (some b)) (pV p) false).run Tryz.prog w = .ok v w ∧ OwnZ w base v (zO (grO pg n p)) := by
  obtain ⟨es, clock, h⟩ := h
  rcases Go.Maps.fit_look false pKd mapT (mapZ w) h.heap h.fit (keyOf_p hp) with ⟨_, hn, _⟩ | ⟨e0, y, hm, hk, hrun, _⟩
  · obtain ⟨x, hx, hk⟩ := (has_key h.heap h.fit hp).1 ((h.has p hp).2 hi)
    exact absurd hk (hn x hx)
  · exact ⟨e0.val, by simpa using hrun, h.row e0 hm p hk⟩
theorem Gm.owns {w : World} {b base : Nat} {pg : Nat → Int × Int} {n : Nat} (h : Gm w b base pg n) (hw : ∀ i, i < n → pW (pg i)) : ∃ D, w.ownsMap Tryz.prog 113 R0 b n D ∧ Go.Maps.size D ≤ n ∧ ∀ p, pW p → (Go.Maps.has D (pK p) = true ↔ ∃ i, i < n ∧ pg i = p) := by
  obtain ⟨es, clock, h⟩ := h
  exact ⟨dO es, h.owns, by rw [size_dO]; exact h.size, h.has⟩
theorem gr_len (pg : Nat → Int × Int) (n : Nat) (p : Int × Int) : (grO pg n p).length ≤ n := by
  unfold grO
  exact Nat.le_trans (List.length_filter_le _ _) (by simp)
theorem grownR {w1 w w' : World} {row : Option Nat} (X : Ext w1 w) (g : w.grownBy w' row) (h : ∀ k, row = some k → w1.heap.size ≤ k) : Ext w1 w' := Below.grown X g (Ext.size X) h
theorem OwnZ.pushO {w : World} {base : Nat} {v : Value} {zs : List Int} {z : Int} (h : w.ownsRow base 2 1 v (zs.length + 1) (cellsZ zs ++ [.int .i64 z])) : OwnZ w base v (zs ++ [z]) := by
  unfold OwnZ
  have e1 : (zs ++ [z]).length = zs.length + 1 := by simp
  have e2 : cellsZ (zs ++ [z]) = cellsZ zs ++ [.int .i64 z] := by simp [cellsZ]
  rw [e1, e2]; exact h
theorem OwnZ.appO {w : World} {base : Nat} {v : Value} {a b : List Int} (h : w.ownsRow base 2 1 v (a.length + b.length) (cellsZ a ++ cellsZ b)) : OwnZ w base v (a ++ b) := by
  unfold OwnZ
  have e2 : cellsZ (a ++ b) = cellsZ a ++ cellsZ b := by simp [cellsZ]
  rw [List.length_append, e2]; exact h
theorem zO_len (l : List Nat) : (zO l).length = l.length := by simp [zO]
theorem zO_app (a b : List Nat) : zO (a ++ b) = zO a ++ zO b := by simp [zO]
theorem add_block (a : Addr) (n : Nat) : (a.add n).block = a.block := by unfold Addr.add; split <;> rfl
theorem cells_add {w : World} {g : Nat} {zs : List Int} (h : ∀ i, i < zs.length → w.cell? ⟨g, i, none⟩ = some (.int .i64 (nz zs i))) : ∀ j u, (cellsZ zs)[j]? = some u → w.cell? ((⟨g, 0, none⟩ : Addr).add j) = some u := by
  intro j u hu
  have hj : j < zs.length := by
    have := (List.getElem?_eq_some_iff.1 hu).1
    simpa [cellsZ] using this
  rw [show (⟨g, 0, none⟩ : Addr).add j = ⟨g, j, none⟩ by simp [Addr.add]; omega, h j hj]
  unfold cellsZ at hu
  rw [List.getElem?_map, nz_at hj] at hu
  exact hu
theorem ints_one (zs : List Int) : ∀ u ∈ cellsZ zs, u.oneCell' = true := fun u hu => by
  obtain ⟨z, _, rfl⟩ := List.mem_map.1 hu
  rfl
def Pgs (w : World) (a : Option Addr) (qs : List (Int × Int)) : Prop :=
  qs = [] ∨ ∃ g, a = some ⟨g, 0, none⟩ ∧ ∀ m, m < qs.length → w.cell? ⟨g, m * 2, none⟩ = some (.int .i64 (qs.getD m (0, 0)).1) ∧ w.cell? ⟨g, m * 2 + 1, none⟩ = some (.int .i64 (qs.getD m (0, 0)).2)
theorem pgs_of_row {w : World} {base n : Nat} {v : Value} {qs : List (Int × Int)} (h : w.ownsRow base 113 2 v n (cellsPg qs)) (hn : n = qs.length) : ∃ a cap, v = .slice a qs.length cap ∧ Pgs w a qs := by
  subst hn
  rcases row_cases h with ⟨hv, h0⟩ | ⟨g, cap, hv, _, _, hc⟩
  · obtain rfl := List.length_eq_zero_iff.1 h0
    exact ⟨none, 0, hv, .inl rfl⟩
  · refine ⟨_, cap, hv, .inr ⟨g, rfl, fun m hm => ⟨?_, ?_⟩⟩⟩
    · rw [hc _ (by omega), cellsPg_at qs _ (by omega), show m * 2 / 2 = m by omega, show m * 2 % 2 = 0 by omega]; rfl
    · rw [hc _ (by omega), cellsPg_at qs _ (by omega), show (m * 2 + 1) / 2 = m by omega, show (m * 2 + 1) % 2 = 1 by omega]; rfl
theorem flat_le {α β : Type} (f : α → List β) : ∀ l : List α, (∀ p ∈ l, f p ≠ []) → l.length ≤ (l.flatMap f).length
  | [], _ => by simp
  | a :: r, h => by
    have ih := flat_le f r (fun p hp => h p (by simp [hp]))
    have h1 : 0 < (f a).length := List.length_pos_iff.2 (h a (by simp))
    simp only [List.flatMap_cons, List.length_append, List.length_cons]
    omega
theorem all_facts {D : DataW Unit} {ss : List (Int × Int)} {pg : Nat → Int × Int} {n : Nat} (h : AllP D ss) (hD : ∀ p, pW p → (Go.Maps.has D (pK p) = true ↔ ∃ i, i < n ∧ pg i = p)) (hw : ∀ i, i < n → pW (pg i)) :
    (srtP ss).flatMap (grO pg n) = ordO pg n ∧ (∀ p ∈ srtP ss, pW p ∧ ∃ i, i < n ∧ pg i = p) ∧ ss.length ≤ n := by
  have h1 : (srtP ss).flatMap (grO pg n) = ordO pg n := groups_order (srt_sorted h.1) (fun i hi => srt_mem.2 ((h.2.2 _ (hw i hi)).2 ((hD _ (hw i hi)).2 ⟨i, hi, rfl⟩)))
  have h2 : ∀ p ∈ srtP ss, pW p ∧ ∃ i, i < n ∧ pg i = p := fun p hp => by
    have q := srt_mem.1 hp
    have qw := h.2.1 p q
    exact ⟨qw, (hD p qw).1 ((h.2.2 p qw).1 q)⟩
  refine ⟨h1, h2, ?_⟩
  have h3 := flat_le (grO pg n) (srtP ss) (fun p hp e => by
    obtain ⟨_, i, hi, e2⟩ := h2 p hp
    exact (gr_nil.1 e) i hi e2)
  rw [h1, ord_len, srt_len] at h3
  exact h3
def accO (pg : Nat → Int × Int) (n : Nat) (qs : List (Int × Int)) (m : Nat) : List Nat := (qs.take m).flatMap (grO pg n)
theorem acc_succ {pg : Nat → Int × Int} {n : Nat} {qs : List (Int × Int)} {m : Nat} (h : m < qs.length) : accO pg n qs (m + 1) = accO pg n qs m ++ grO pg n (qs.getD m (0, 0)) := by
  unfold accO
  rw [List.take_succ_eq_append_getElem h, List.flatMap_append]
  simp [List.getD_eq_getElem?_getD, h]
theorem acc_len {pg : Nat → Int × Int} {n : Nat} {qs : List (Int × Int)} {m : Nat} (h : qs.flatMap (grO pg n) = ordO pg n) : (accO pg n qs m).length ≤ n := by
  have e : (qs.flatMap (grO pg n)).length = n := by rw [h, ord_len]
  have : qs.flatMap (grO pg n) = accO pg n qs m ++ (qs.drop m).flatMap (grO pg n) := by
    unfold accO
    rw [← List.flatMap_append, List.take_append_drop]
  rw [this, List.length_append] at e
  omega
def RelOi (W : World) (b base : Nat) (pg : Nat → Int × Int) (n : Nat) (i : Value) (wr : World) : Prop := ∃ j : Nat, i = .int .i64 j ∧ j ≤ n ∧ Gm wr b base pg j ∧ Ext W wr
def RelOj (W : World) (base : Nat) (pg : Nat → Int × Int) (n : Nat) (qs : List (Int × Int)) (o i : Value) (wr : World) : Prop := ∃ m : Nat, i = .int .i64 m ∧ m ≤ qs.length ∧ OwnZ wr base o (zO (accO pg n qs m)) ∧ Ext W wr
def OrdA (w : World) (l k : L4) (ms : List M5) (ts : List T1) (t : Int) (e : Ending) (w' : World) : Prop :=
  ∃ v, e = .returned (.tuple #[v, .int .i64 (oaC l k ms ts)]) ∧ OwnZ w' w.heap.size v (oaZ l k ms ts t) ∧ Ext w w'
set_option maxRecDepth 100000 in
set_option maxHeartbeats 8000000 in
theorem orderAt_impl (l k : L4) (a : Option Addr) (cap : Nat) (ms : List M5) (at_ : Option Addr) (ct : Nat) (ts : List T1) (t : Int) (w : World) (hf : Mks w a ms) (ht : Tks w at_ ts) :
    Calls Tryz.prog 19 #[CV l k (.slice a ms.length cap), .slice at_ ts.length ct, .int .i64 t] w (OrdA w l k ms ts t) := by
  obtain ⟨W0, hW0⟩ : ∃ W0, W0 = w.alloc (.cells (cellsC l k (.slice a ms.length cap)).toArray 30) := ⟨_, rfl⟩
  have HW := Lib.hid (show Ext w W0 from hW0 ▸ (Ext.refl w).alloc _)
  have BB := Lib.hid (show Box W0 w.heap.size (cellsC l k (.slice a ms.length cap)) from hW0 ▸ Box.new rfl)
  have HF := Lib.hid (hf.ext HW.out)
  have HT := Lib.hid (ht.ext HW.out)
  have hm := ht.1
  unfold maxLen at hm
  clear hf ht
  by_cases h16 : 16 < ts.length
  · have H := Lib.hid (oa_many (l := l) (k := k) (ms := ms) (t := t) h16)
    have q1 : (16 : Int) < (ts.length : Int) := by omega
    have q2 : decide ((16 : Int) < (ts.length : Int)) = true := decide_eq_true q1
    go_enter Tryz.func19, Tryz.ntmps19
    go_wp2
    go_ret2
    exact ⟨_, ret_vi H.out.1, by rw [H.out.2]; exact World.ownsRow_nil _ _ _ _, (by repeat (first | exact Ext.refl _ | assumption | apply Ext.alloc | apply Ext.drew | (refine Ext.trans ?_ (by assumption)) | (refine Ext.setNew ?_ (by simp <;> omega) _)))⟩
  have q1 : ¬ (16 : Int) < (ts.length : Int) := by omega
  have q2 : decide ((16 : Int) < (ts.length : Int)) = false := decide_eq_false q1
  have KL := Lib.hid (linesToSail_any l k a cap ms at_ ct ts W0 HF.out HT.out)
  obtain ⟨⟨p0, p1, p2, p3, p4, p5, p6, p7, p8⟩, _⟩ := Box.nine BB.out
  by_cases g : lcC l k ms (tsB ts) = 0
  rotate_left
  · have HY := Lib.hid (oa_bad (t := t) h16 g)
    have g1 : (lcC l k ms (tsB ts) != 0) = true := by simp [g]
    have g2 : (lcC l k ms (tsB ts) == 0) = false := beq_eq_false_iff_ne.2 g
    unfold LinesI at KL
    obtain ⟨C, hC⟩ : ∃ C, C = lcC l k ms (tsB ts) := ⟨_, rfl⟩
    have HC := Lib.hid hC
    rw [← hC] at KL g1 g2
    clear g hC
    go_enter Tryz.func19, Tryz.ntmps19
    go_wp2_with fail
    rw [← hW0]
    clear hW0
    refine KL.out.mono ?_
    rintro e w1 ⟨v, rfl, -, hx⟩
    go_wp2
    go_ret2
    exact ⟨_, ret_vi (HY.out.1.trans HC.out.symm), by rw [HY.out.2]; exact World.ownsRow_nil _ _ _ _, HW.out.trans hx⟩
  obtain ⟨hq, hv, hl⟩ := lc_zero g
  have HY := Lib.hid (oa_yes (t := t) h16 g)
  have HV := Lib.hid hv
  have HS := Lib.hid (st_ok hq hl)
  have SL := Lib.hid (show (stS l k ms).length ≤ 10 by rw [stS_len]; have := cr_eight hq; omega)
  unfold LinesI at KL
  rw [g] at KL
  obtain ⟨ls, hls⟩ : ∃ ls, ls = stS l k ms := ⟨_, rfl⟩
  rw [← hls] at KL HY HS SL
  clear hls g hq hv hl
  have PW := Lib.hid (fun j (hj : j < ts.length) => pg_wf (t := t) (tsB_at HV.out hj) HS.out SL.out)
  go_enter Tryz.func19, Tryz.ntmps19
  go_wp2_with fail
  rw [← hW0]
  clear hW0
  refine KL.out.mono ?_
  rintro e w1 ⟨v, rfl, hO, hx⟩
  obtain ⟨al, cl, rfl, hLx⟩ := OwnL.lxs (hO (by simp)) (by have := SL.out; omega)
  have HL := Lib.hid hLx
  have X1 := Lib.hid hx
  clear hx hO hLx p0 p1 p2 p3 p4 p5 p6 p7 p8
  have GM := Lib.hid (Gm.made w1 (pgO ls ts t))
  obtain ⟨W2, hW2⟩ : ∃ W2, W2 = w1.alloc (.map #[] 0) := ⟨_, rfl⟩
  have X2 := Lib.hid (show Ext w1 W2 from hW2 ▸ (Ext.refl w1).alloc _)
  rw [← hW2] at GM
  obtain ⟨i0, hin, hz0, hz1, hz2⟩ := info_parts int64Info
  have hmk : (Instr.makeMap 128 none).run Tryz.prog w1 = .ok (.map (some w1.heap.size)) W2 := hW2 ▸ run_makeMap _ _
  clear hW2
  go_wp2
  clear hmk
  go_loopw [32] (fun i wr => RelOi w1 w1.heap.size (w1.heap.size + 1) (pgO ls ts t) ts.length i wr) (fun i _ => ts.length - (intOf i).toNat)
  case atStart => exact ⟨0, rfl, Nat.zero_le _, GM.out, X2.out⟩
  case round =>
    obtain ⟨j, rfl, hj, hG, hx⟩ := hrel
    have HG := Lib.hid hG
    have HX := Lib.hid hx
    clear hG hx GM
    by_cases hj1 : j < ts.length
    · obtain ⟨b, off, rfl, hb⟩ := HT.out.row (by omega)
      have HT1 := Lib.hid (HT.out.2.1 j hj1)
      have X3 := Lib.hid (X1.out.trans HX.out)
      have c0 := X3.out.cellOf (hb j hj1)
      have j0 : (0 : Int) ≤ (j : Int) := by omega
      have j1 : (j : Int) < (ts.length : Int) := by omega
      have T7 : IntKind.i64.wrap ((j : Int) + 1) = (j : Int) + 1 := IntWalk.i64_in _ (by omega)
      have HVJ := Lib.hid (tsB_at HV.out hj1)
      have PWJ := Lib.hid (PW.out j hj1)
      have HP := Lib.hid (show pgO ls ts t j = ((rcN (tmL (tk ts j).fs ls 0) t : Int), pgT (tmL (tk ts j).fs ls 0) t) from rfl)
      have hJ : j < 1000 := by omega
      obtain ⟨T, hT⟩ : ∃ T, T = tk ts j := ⟨_, rfl⟩
      rw [← hT] at c0 HT1 HVJ PWJ HP
      clear hT hb
      have TB := Lib.hid (tm_bd HVJ.out ls 0 HS.out).2
      have TL := Lib.hid (tmL_len T.fs ls 0)
      obtain ⟨zs, hzs⟩ : ∃ zs, zs = tmL T.fs ls 0 := ⟨_, rfl⟩
      have KT := Lib.hid (fun w' (h1 : Fxs w' T.a T.fs) (h2 : Lxs w' al ls) => timesAcross_any T.a T.c T.fs al cl ls w' h1 h2)
      rw [← hzs] at TB TL KT PWJ HP
      clear hzs
      obtain ⟨W3, hW3⟩ : ∃ W3, W3 = wr.alloc (.cells #[.slice T.a T.fs.length T.c] 33) := ⟨_, rfl⟩
      have X4 := Lib.hid (show Ext wr W3 from hW3 ▸ (Ext.refl wr).alloc _)
      have ct : W3.cell? ⟨wr.heap.size, 0, none⟩ = some (.slice T.a T.fs.length T.c) := hW3 ▸ boxed 0 rfl rfl
      go_wp2_with fail
      rw [← hW3]
      clear hW3 c0
      refine (KT.out _ (HT1.out.ext (X3.out.trans X4.out)) (HL.out.ext (HX.out.trans X4.out))).mono ?_
      rintro e w4 ⟨v, rfl, hO, hy⟩
      obtain ⟨az, cz, rfl, hZ⟩ := hO.zxs (by have := TL.out; have := SL.out; unfold maxLen; omega)
      have HZ := Lib.hid hZ
      have Y4 := Lib.hid (X4.out.trans hy)
      clear hO hZ hy ct
      go_wp2_with fail
      refine (progressAt_any az cz zs t _ HZ.out (by have := TL.out; have := SL.out; omega) TB.out).mono ?_
      rintro e w5 ⟨rfl, hy⟩
      have Y5 := Lib.hid (Y4.out.trans hy)
      clear hy
      obtain ⟨X, hX⟩ : ∃ X, X = (rcN zs t : Int) := ⟨_, rfl⟩
      obtain ⟨Y, hY⟩ : ∃ Y, Y = pgT zs t := ⟨_, rfl⟩
      rw [← hX, ← hY] at PWJ HP ⊢
      clear hX hY HZ KT TB TL
      obtain ⟨W7, hW7⟩ : ∃ W7, W7 = (w5.alloc (.cells #[.int .i64 X, .int .i64 Y] 113)).alloc (.cells #[.int .i64 j] 2) := ⟨_, rfl⟩
      have X7 := Lib.hid (show Ext wr W7 from hW7 ▸ (Y5.out.alloc _).alloc _)
      have CC := Lib.hid (show ∀ jj u, ([.int .i64 (j : Int)] : List Value)[jj]? = some u → W7.cell? ((⟨w5.heap.size + 1, 0, none⟩ : Addr).add jj) = some u from hW7 ▸ lit_cells (w := w5.alloc (.cells #[.int .i64 X, .int .i64 Y] 113)) (n := w5.heap.size + 1) (u := .int .i64 (j : Int)) (t := 2) (by simp))
      have hsz : w1.heap.size < w5.heap.size := Nat.lt_of_lt_of_le HG.out.lt Y5.out.size
      obtain ⟨v0, st, w8, hrun, g8, hs8, ho8, hstore⟩ := (HG.out.ext X7.out).entry (HP.out ▸ PWJ.out) hJ
      rw [HP.out] at hrun ho8 hstore
      have ST := Lib.hid hstore
      have O8 := Lib.hid ho8
      have hrun' : (Instr.mapEntry 128 (.map (some w1.heap.size)) (.agg #[.int .i64 X, .int .i64 Y])).run Tryz.prog W7 = .ok (.tuple #[v0, goInt st]) w8 := hrun
      have C8 := Lib.hid (show ∀ jj u, ([.int .i64 (j : Int)] : List Value)[jj]? = some u → w8.cell? ((⟨w5.heap.size + 1, 0, none⟩ : Addr).add jj) = some u from fun jj u h => World.grownBy.cell g8 (CC.out jj u h) (fun e => by rw [add_block] at e; have e2 : w5.heap.size + 1 = w1.heap.size := Option.some.inj e; omega))
      have X8 := Lib.hid (grownR (HX.out.trans X7.out) g8 (fun k e => by cases e; exact Nat.le_refl _))
      have B8 := Lib.hid (show ∀ k, v0.ownBlock = some k → w1.heap.size ≤ k from fun k e => by have := (ho8.lt e).1; omega)
      rw [hW7] at hrun'
      have GL := gr_len (pgO ls ts t) j (X, Y)
      have P1 := Lib.hid (one_int (j : Int))
      have P3 := Lib.hid (show (zO (grO (pgO ls ts t) j (X, Y))).length + 1 ≤ maxLen by rw [zO_len]; unfold maxLen; omega)
      have P4 := Lib.hid (show ((zO (grO (pgO ls ts t) j (X, Y))).length + 1) * 8 ≤ 140737488355328 by rw [zO_len]; omega)
      have zA := Lib.hid (show w1.heap.size + 1 ≤ w8.heap.size by have := X7.out.size; have := HG.out.lt; omega)
      clear hstore ho8 hrun CC g8 hW7 GL HP PWJ
      go_wp2_with (at_builtin; refine wpList_append_own_at _ rfl _ _ 38 rfl (w1.heap.size + 1) 2 i0 (.int .i64 0) 1 8 Tryz.underlying38 hin hz0 hz1 hz2 rfl (by decide) v0 (zO (grO (pgO ls ts t) j (X, Y))).length _ rfl O8.out ⟨w5.heap.size + 1, 0, none⟩ 1 1 [.int .i64 (j : Int)] rfl rfl C8.out P1.out P3.out P4.out zA.out ?_; intro v1 w9 hown hgrow hnil hat; obtain ⟨w10, hst, hG10, hg10⟩ := ST.out w9 v1 hgrow (OwnZ.pushO hown) hat; have hst' : (Instr.entryStore 128 (.map (some w1.heap.size)) (.int .i64 (st : Int)) v1).run Tryz.prog w9 = .ok () w10 := hst; clear hst; have G10 := Lib.hid hG10; have X10 := Lib.hid (grownR (grownR X8.out hgrow B8.out) hg10 (fun k e => by cases e; exact Nat.le_refl _)); clear hown hgrow hnil hat hG10 hg10)
      go_roundw
      case rel => exact ⟨j + 1, by go_num, by omega, G10.out, X10.out⟩
      case measure => simp [intOf]; omega
    · obtain rfl : j = ts.length := by omega
      have hw : ∀ i, i < ts.length → pW (pgO ls ts t i) := fun i hi => PW.out i hi
      obtain ⟨pg, hpg⟩ : ∃ pg, pg = pgO ls ts t := ⟨_, rfl⟩
      rw [← hpg] at HG HY hw
      obtain ⟨W5, hW5⟩ : ∃ W5, W5 = wr.alloc (.cells #[.map (some w1.heap.size)] 128) := ⟨_, rfl⟩
      have X5 := Lib.hid (show Ext wr W5 from hW5 ▸ (Ext.refl wr).alloc _)
      have hm5 : W5.cell? ⟨wr.heap.size, 0, none⟩ = some (.map (some w1.heap.size)) := hW5 ▸ boxed 0 rfl rfl
      have hl5 : wr.heap.size < W5.heap.size := by rw [hW5]; simp
      obtain ⟨D, hown, hsz, hD⟩ := (HG.out.ext X5.out).owns hw
      have KK := Lib.hid ((callsIn_wide (n := 1)).1 (keys_in 1 (some w1.heap.size) wr))
      have KS := Lib.hid ((callsIn_wide (n := 4)).1 (sortedFunc_in 4 (by omega) 138 #[.pointer (some ⟨wr.heap.size, 0, none⟩)] (enters_of Tryz.func138 (by kernel_rfl) rfl)
        (AllP D) (Go.Maps.size D) (by unfold maxLen; omega) (by omega) W5 (keys_gives wr.heap.size w1.heap.size ts.length D 1 (by omega) W5 hl5 hm5 hown) (fun ss h => Nat.le_trans (all_facts h hD hw).2.2 (by omega))))
      have AF := Lib.hid (fun ss h => all_facts (ss := ss) h hD hw)
      clear hm5 hl5 hown hsz hD hw hpg PW
      go_wp2_with fail
      refine KK.out.mono ?_
      rw [← hW5]
      rintro e w5 ⟨rfl, rfl⟩
      clear hW5 KK
      go_wp2_with fail
      refine KS.out.mono ?_
      rintro e w6 ⟨v, ss, rfl, hS, hrow, hy⟩
      obtain ⟨hfl, hin, hle⟩ := AF.out ss hS
      obtain ⟨a6, c6, rfl, hP⟩ := pgs_of_row hrow (srt_len ss).symm
      have hql : (srtP ss).length ≤ 16 := by rw [srt_len]; omega
      obtain ⟨qs, hqs⟩ : ∃ qs, qs = srtP ss := ⟨_, rfl⟩
      rw [← hqs] at hfl hin hP hql ⊢
      have HFL := Lib.hid hfl
      have HIN := Lib.hid hin
      have HPG := Lib.hid hP
      have Y6 := Lib.hid (X5.out.trans hy)
      have X6 := Lib.hid (HX.out.trans Y6.out)
      have HG6 := Lib.hid (HG.out.ext Y6.out)
      clear hfl hin hP hy hrow hS AF KS hqs hle
      have AL := Lib.hid (fun m => acc_len (m := m) HFL.out)
      go_wp2
      go_loopw [14, 55] (fun o i wr => RelOj w6 w6.heap.size pg ts.length qs o i wr) (fun o i _ => qs.length - (intOf i).toNat)
      case atStart => exact ⟨0, rfl, Nat.zero_le _, World.ownsRow_nil _ _ _ _, Ext.refl _⟩
      case round =>
        obtain ⟨m, rfl, hm6, hO, hx⟩ := hrel
        have HO := Lib.hid hO
        have HX6 := Lib.hid hx
        clear hO hx
        by_cases hm1 : m < qs.length
        · obtain ⟨g, rfl, hb⟩ := HPG.out.resolve_left (fun e => by rw [e] at hm1; simp at hm1)
          obtain ⟨c0, c1⟩ := hb m hm1
          replace c0 := HX6.out.cellOf c0
          replace c1 := HX6.out.cellOf c1
          have j0 : (0 : Int) ≤ (m : Int) := by omega
          have j1 : (m : Int) < (qs.length : Int) := by omega
          have T7 : IntKind.i64.wrap ((m : Int) + 1) = (m : Int) + 1 := IntWalk.i64_in _ (by omega)
          have HS1 := Lib.hid (acc_succ (pg := pg) (n := ts.length) hm1)
          have HI := Lib.hid (HIN.out _ (show qs.getD m (0, 0) ∈ qs by rw [List.getD_eq_getElem?_getD, List.getElem?_eq_getElem hm1]; exact List.getElem_mem hm1))
          have L1 := AL.out (m + 1)
          rw [HS1.out, List.length_append] at L1
          obtain ⟨p, hp⟩ : ∃ p, p = qs.getD m (0, 0) := ⟨_, rfl⟩
          rw [← hp] at c0 c1 HS1 HI L1
          clear hp hb
          obtain ⟨x, y⟩ := p
          obtain ⟨W7, hW7⟩ : ∃ W7, W7 = wr.alloc (.cells #[.int .i64 x, .int .i64 y] 113) := ⟨_, rfl⟩
          have X7 := Lib.hid (show Ext wr W7 from hW7 ▸ (Ext.refl wr).alloc _)
          obtain ⟨v0, hrun, hv0⟩ := (HG6.out.ext (HX6.out.trans X7.out)).look HI.out.1 HI.out.2
          have hgz : zO (grO pg ts.length (x, y)) ≠ [] := fun e => by
            obtain ⟨i, hi, e2⟩ := HI.out.2
            have : grO pg ts.length (x, y) = [] := by simpa [zO] using e
            exact (gr_nil.1 this) i hi e2
          obtain ⟨g0, cap0, rfl, _, hc0, _⟩ := hv0.cases.resolve_left (fun e => hgz e.2)
          have hrun' : (Instr.lookup 128 (.map (some w1.heap.size)) (.agg #[.int .i64 x, .int .i64 y]) false).run Tryz.prog W7 = .ok (.slice (some ⟨g0, 0, none⟩) (zO (grO pg ts.length (x, y))).length cap0) W7 := hrun
          have CC := Lib.hid (cells_add hc0)
          have O7 := row_ext HO.out X7.out
          have P1 := Lib.hid (ints_one (zO (grO pg ts.length (x, y))))
          have P2 := Lib.hid (show (cellsZ (zO (grO pg ts.length (x, y)))).length = (zO (grO pg ts.length (x, y))).length * 1 by simp [cellsZ])
          have P3 := Lib.hid (show (zO (accO pg ts.length qs m)).length + (zO (grO pg ts.length (x, y))).length ≤ maxLen by rw [zO_len, zO_len]; unfold maxLen; omega)
          have P4 := Lib.hid (show ((zO (accO pg ts.length qs m)).length + (zO (grO pg ts.length (x, y))).length) * 8 ≤ 140737488355328 by rw [zO_len, zO_len]; omega)
          have zA := Lib.hid (show w6.heap.size ≤ W7.heap.size from (HX6.out.trans X7.out).size)
          have XA := Lib.hid (HX6.out.trans X7.out)
          rw [hW7] at hrun' CC O7 zA XA
          have HZ := Lib.hid (show zO (accO pg ts.length qs (m + 1)) = zO (accO pg ts.length qs m) ++ zO (grO pg ts.length (x, y)) by rw [HS1.out, zO_app])
          clear hrun hv0 hgz hc0 hW7 L1 HI
          generalize zO (grO pg ts.length (x, y)) = gz at *
          go_wp2_with (at_builtin; refine wpList_append_own _ rfl _ _ 38 rfl w6.heap.size 2 i0 (.int .i64 0) 1 8 Tryz.underlying38 hin hz0 hz1 hz2 rfl (by decide) _ (zO (accO pg ts.length qs m)).length _ rfl O7 ⟨g0, 0, none⟩ gz.length cap0 (cellsZ gz) rfl P2.out CC.out P1.out P3.out P4.out zA.out ?_; intro v1 w9 hown hgrow hnil; have O9 := Lib.hid (show OwnZ w9 w6.heap.size v1 (zO (accO pg ts.length qs (m + 1))) by rw [HZ.out]; exact OwnZ.appO hown); have X9 := Lib.hid (row_grown (w0 := w6) O7 hgrow (Nat.le_refl _) XA.out); clear hown hgrow hnil O7)
          go_roundw
          case rel => exact ⟨m + 1, by go_num, by omega, O9.out, X9.out⟩
          case measure => simp [intOf]; omega
        · obtain rfl : m = qs.length := by omega
          have HE := Lib.hid (show accO pg ts.length qs qs.length = ordO pg ts.length by unfold accO; rw [List.take_length]; exact HFL.out)
          go_wp2
          go_ret2
          exact ⟨_, ret_vi HY.out.1, by rw [HY.out.2, ← HE.out]; exact row_mono HO.out (HW.out.trans (X1.out.trans X6.out)).size, HW.out.trans (X1.out.trans (X6.out.trans HX6.out))⟩
end Go.Proofs.YtmlojndkpnhalaaGreat.Crs
namespace Go.Proofs.YtmlojndkpnhalaaGreat.Crs
open Go.ChangeShapes Go.WideShapes Go.ChangeAt Go.RowKit Go.PlainAid
open Go.Proofs.YtmlojndkpnhalaaGreat.Num Go.Proofs.YtmlojndkpnhalaaGreat.Kit Go.Proofs.YtmlojndkpnhalaaGreat.Pts Go.Proofs.YtmlojndkpnhalaaGreat.Seg Go.Proofs.YtmlojndkpnhalaaGreat.Div Go.Proofs.YtmlojndkpnhalaaGreat.Root Go.Proofs.YtmlojndkpnhalaaGreat.Rt
open Go.Proofs.YtmlojndkpnhalaaGreat.Trk (F3 Fxs Tr trB)
set_option linter.unusedVariables false
set_option linter.unusedSimpArgs false
theorem step_append_at7 {P : Program} {ops : Array Oper} {o : Oper} {a : Act} {w : World} {K : Act → World → Prop} {Q : Exit → Act → World → Prop} {E : Prop}
    (hg : o.guard = none) (s x : Operand) (t : TypeId) (hop : o.op = Op.call { callee := Callee.builtin Builtin.append, args := #[s, x], argTypes := #[t, t] })
    (base : Nat) (e : TypeId) (i : TypeInfo) (z : Value) (size bytes : Nat) (h1 : P.underlying t = some (.slice e)) (h2 : P.info? e = some i) (h3 : i.zero = some z) (h4 : i.size = size) (h5 : i.bytes = bytes) (h6 : z.cells.size = size) (h7 : 0 < size)
    (v : Value) (n : Nat) (xs : List Value) (hs : a.eval s = v) (hown : w.ownsRow base e size v n xs)
    (ad : Addr) (m c : Nat) (news : List Value) (hx : a.eval x = .slice (some ad) m c) (hn : news.length = m * size) (hc : ∀ j u, news[j]? = some u → w.cell? (ad.add j) = some u) (h1c : ∀ u ∈ news, u.oneCell' = true)
    (b1 : n + m ≤ maxLen) (b2 : (n + m) * bytes ≤ 140737488355328) (hb : base ≤ w.heap.size)
    (hK : ∀ v' w', w'.ownsRow base e size v' (n + m) (xs ++ news) → w.grownBy w' v.ownBlock → (v'.ownBlock = v.ownBlock ∨ v'.ownBlock = some w.heap.size) → K (a.put o.dst v') w') :
    if Region.wanted o (yielded ops a.tmps) = true then Oper.wp P o a w K Q else E := by
  rw [if_pos (by simp [Region.wanted, hg])]
  obtain ⟨v', w', hr, r2, r3, r4, r5⟩ := run_append_own_at (P := P) w base t o.type e i z size bytes h1 h2 h3 h4 h5 h6 h7 v n xs hown ad m c news hn hc h1c b1 b2 hb
  unfold Oper.wp execOp
  simp only [hop, resolve, invoke, builtin, Sem.run_bind, Sem.run_pure, Result.andThen_ok, List.map_toArray, List.map_cons, List.map_nil, hs, hx, hr]
  exact hK v' w' r2 r3 r5
set_option maxRecDepth 100000 in
set_option maxHeartbeats 4000000 in
theorem l06Ahead_spec (a1 : Option Addr) (c1 : Nat) (zs : List Int) (a2 : Option Addr) (c2 : Nat) (ys : List Int) (t : Int) (w : World) (hz : Zxs w a1 zs) (hy : Zxs w a2 ys) (l1 : zs.length ≤ 1000) (l2 : ys.length ≤ 1000) :
    Calls Tryz.prog 78 #[.slice a1 zs.length c1, .slice a2 ys.length c2, .int .i64 t] w fun e w' => e = .returned (.bool (ahB ((rcN zs t : Int), pgT zs t) ((rcN ys t : Int), pgT ys t))) ∧ Ext w w' := by
  have HZ := Lib.hid hz
  have HY := Lib.hid hy
  have K1 := Lib.hid (fun w' (h : Ext w w') => l06Reached_spec a1 c1 zs t w' (hz.ext h) l1)
  have K2 := Lib.hid (fun w' (h : Ext w w') => l06Reached_spec a2 c2 ys t w' (hy.ext h) l2)
  have r1 := rc_le zs t
  have r2 := rc_le ys t
  have HA := Lib.hid (show (¬ rcN zs t = rcN ys t → ahB ((rcN zs t : Int), pgT zs t) ((rcN ys t : Int), pgT ys t) = decide ((rcN ys t : Int) < (rcN zs t : Int))) ∧ (rcN zs t = rcN ys t → ahB ((rcN zs t : Int), pgT zs t) ((rcN ys t : Int), pgT ys t) = decide (pgT zs t < pgT ys t)) from
    ⟨fun h => by unfold ahB; rw [if_neg (by show ¬ ((rcN zs t : Int) = (rcN ys t : Int)); omega)], fun h => by unfold ahB; rw [if_pos (by show (rcN zs t : Int) = (rcN ys t : Int); omega)]⟩)
  have HP := Lib.hid (show pgT zs t = if rcN zs t = 0 then 0 else nz zs (rcN zs t - 1) from rfl)
  have HQ := Lib.hid (show pgT ys t = if rcN ys t = 0 then 0 else nz ys (rcN ys t - 1) from rfl)
  clear hz hy
  generalize ahB ((rcN zs t : Int), pgT zs t) ((rcN ys t : Int), pgT ys t) = r at HA ⊢
  generalize pgT zs t = P at *
  generalize pgT ys t = Q at *
  generalize rcN zs t = N at *
  generalize rcN ys t = M at *
  by_cases hne : N = M
  · have HR := Lib.hid (HA.out.2 hne)
    subst hne
    have n1 : ((N : Int) != (N : Int)) = false := by simp
    have n2 : ((N : Int) == (N : Int)) = true := by simp
    by_cases h0 : N = 0
    · subst h0
      have HF := Lib.hid (show r = false by rw [HR.out, HP.out, HQ.out]; rfl)
      clear HA HP HQ HR
      go_enter Tryz.func78, Tryz.ntmps78
      go_wp2_with fail
      refine (K1.out _ (Ext.refl _)).mono ?_
      rintro e w1 ⟨rfl, h1⟩
      go_wp2_with fail
      refine (K2.out _ h1).mono ?_
      rintro e w2 ⟨rfl, h2⟩
      have X2 := Lib.hid (h1.trans h2)
      have hX2 := X2.out
      clear h1 h2
      go_wp2_with fail
      refine wp_region_held_drew (S := (fun w' => Ext w w')) (by kernel_rfl) (by (try dsimp only); first | go_keep | exact (Ext.refl _).drew | exact Res.new2.drew | exact Res.new4.drew | exact ResB.drew (by assumption) | exact ResC.drew (by assumption) | assumption | exact Ext.drew (by assumption) | exact Res.drew (by assumption)) (fun hHeld => ?_)
      refine Ord.K 0 21 ?_
      refine Ord.K 1 22 ?_
      refine Ord.K 2 23 ?_
      (first | (refine Ord.s 3 24 ?_ ?_; rfl; (try simp only [Act.put, Ord.a, Ord.b, Ord.c])) | refine Ord.K 3 24 ?_)
      (first | (refine Ord.s 4 25 ?_ ?_; rfl; (try simp only [Act.put, Ord.a, Ord.b, Ord.c])) | refine Ord.K 4 25 ?_)
      (first | (refine Ord.s 5 26 ?_ ?_; rfl; (try simp only [Act.put, Ord.a, Ord.b, Ord.c])) | refine Ord.K 5 26 ?_)
      (first | (refine Ord.s 6 27 ?_ ?_; rfl; (try simp only [Act.put, Ord.a, Ord.b, Ord.c])) | refine Ord.K 6 27 ?_)
      (first | (refine Ord.s 7 28 ?_ ?_; rfl; (try simp only [Act.put, Ord.a, Ord.b, Ord.c])) | refine Ord.K 7 28 ?_)
      (first | (refine Ord.s 8 29 ?_ ?_; rfl; (try simp only [Act.put, Ord.a, Ord.b, Ord.c])) | refine Ord.K 8 29 ?_)
      (first | (refine Ord.s 9 30 ?_ ?_; rfl; (try simp only [Act.put, Ord.a, Ord.b, Ord.c])) | refine Ord.K 9 30 ?_)
      (first | (refine Ord.s 10 31 ?_ ?_; rfl; (try simp only [Act.put, Ord.a, Ord.b, Ord.c])) | refine Ord.K 10 31 ?_)
      (first | (refine Ord.s 11 32 ?_ ?_; rfl; (try simp only [Act.put, Ord.a, Ord.b, Ord.c])) | refine Ord.K 11 32 ?_)
      (first | (refine Ord.s 12 33 ?_ ?_; rfl; (try simp only [Act.put, Ord.a, Ord.b, Ord.c])) | refine Ord.K 12 33 ?_)
      (first | (refine Ord.s 13 34 ?_ ?_; rfl; (try simp only [Act.put, Ord.a, Ord.b, Ord.c])) | refine Ord.K 13 34 ?_)
      refine Ord.K 14 35 ?_
      refine Ord.K 15 6 ?_
      refine wpAnyH_done (by kernel_rfl) ?_ _
      go_wp2
      go_ret
      exact ⟨ret_bool HF.out, hHeld⟩
    · obtain ⟨n, rfl⟩ : ∃ n, N = n + 1 := ⟨N - 1, by omega⟩
      have HR2 := Lib.hid (show r = decide (nz zs n < nz ys n) by rw [HR.out, HP.out, HQ.out, if_neg h0, if_neg h0]; rfl)
      clear HA HP HQ HR
      obtain ⟨b1, o1, rfl, hb1⟩ := HZ.out.row (by omega)
      obtain ⟨b2, o2, rfl, hb2⟩ := HY.out.row (by omega)
      have e0 : ∀ w', Ext w w' → w'.cell? ⟨b1, o1 + n, none⟩ = some (.int .i64 (nz zs n)) := fun w' h => h.cellOf (hb1 n (by omega))
      have e1 : ∀ w', Ext w w' → w'.cell? ⟨b2, o2 + n, none⟩ = some (.int .i64 (nz ys n)) := fun w' h => h.cellOf (hb2 n (by omega))
      have i0 : (0 : Int) ≤ (n : Int) := by omega
      have i1 : (n : Int) < (zs.length : Int) := by omega
      have i2 : (n : Int) < (ys.length : Int) := by omega
      have i3 : (0 : Int) < ((n + 1 : Nat) : Int) := by omega
      have i4 : (0 : Int) < (n : Int) + 1 := by omega
      have T1 : IntKind.i64.wrap (((n + 1 : Nat) : Int) - 1) = (n : Int) := by rw [IntWalk.i64_in _ (by omega)]; omega
      have T2 : IntKind.i64.wrap ((n : Int) + 1 - 1) = (n : Int) := by rw [IntWalk.i64_in _ (by omega)]; omega
      have T3 : IntKind.i64.wrap (n : Int) = (n : Int) := IntWalk.i64_in _ (by omega)
      clear hb1 hb2 HZ HY
      go_enter Tryz.func78, Tryz.ntmps78
      go_wp2_with fail
      refine (K1.out _ (Ext.refl _)).mono ?_
      rintro e w1 ⟨rfl, h1⟩
      go_wp2_with fail
      refine (K2.out _ h1).mono ?_
      rintro e w2 ⟨rfl, h2⟩
      have X2 := Lib.hid (h1.trans h2)
      have hX2 := X2.out
      clear h1 h2
      go_wp2_with fail
      refine wp_region_held_drew (S := (fun w' => Ext w w')) (by kernel_rfl) (by (try dsimp only); first | go_keep | exact (Ext.refl _).drew | exact Res.new2.drew | exact Res.new4.drew | exact ResB.drew (by assumption) | exact ResC.drew (by assumption) | assumption | exact Ext.drew (by assumption) | exact Res.drew (by assumption)) (fun hHeld => ?_)
      refine Ord.K 0 21 ?_
      refine Ord.K 1 22 ?_
      refine Ord.K 2 23 ?_
      (first | (refine Ord.s 3 24 ?_ ?_; rfl; (try simp only [Act.put, Ord.a, Ord.b, Ord.c])) | refine Ord.K 3 24 ?_)
      (first | (refine Ord.s 4 25 ?_ ?_; rfl; (try simp only [Act.put, Ord.a, Ord.b, Ord.c])) | refine Ord.K 4 25 ?_)
      (first | (refine Ord.s 5 26 ?_ ?_; rfl; (try simp only [Act.put, Ord.a, Ord.b, Ord.c])) | refine Ord.K 5 26 ?_)
      (first | (refine Ord.s 6 27 ?_ ?_; rfl; (try simp only [Act.put, Ord.a, Ord.b, Ord.c])) | refine Ord.K 6 27 ?_)
      (first | (refine Ord.s 7 28 ?_ ?_; rfl; (try simp only [Act.put, Ord.a, Ord.b, Ord.c])) | refine Ord.K 7 28 ?_)
      (first | (refine Ord.s 8 29 ?_ ?_; rfl; (try simp only [Act.put, Ord.a, Ord.b, Ord.c])) | refine Ord.K 8 29 ?_)
      (first | (refine Ord.s 9 30 ?_ ?_; rfl; (try simp only [Act.put, Ord.a, Ord.b, Ord.c])) | refine Ord.K 9 30 ?_)
      (first | (refine Ord.s 10 31 ?_ ?_; rfl; (try simp only [Act.put, Ord.a, Ord.b, Ord.c])) | refine Ord.K 10 31 ?_)
      (first | (refine Ord.s 11 32 ?_ ?_; rfl; (try simp only [Act.put, Ord.a, Ord.b, Ord.c])) | refine Ord.K 11 32 ?_)
      (first | (refine Ord.s 12 33 ?_ ?_; rfl; (try simp only [Act.put, Ord.a, Ord.b, Ord.c])) | refine Ord.K 12 33 ?_)
      (first | (refine Ord.s 13 34 ?_ ?_; rfl; (try simp only [Act.put, Ord.a, Ord.b, Ord.c])) | refine Ord.K 13 34 ?_)
      refine Ord.K 14 35 ?_
      refine Ord.K 15 6 ?_
      refine wpAnyH_done (by kernel_rfl) ?_ _
      go_wp2
      go_ret
      exact ⟨ret_bool HR2.out, hHeld⟩
  · have HR := Lib.hid (HA.out.1 hne)
    have n1 : ((N : Int) != (M : Int)) = true := by simp; omega
    have n2 : ((N : Int) == (M : Int)) = false := beq_eq_false_iff_ne.2 (by omega)
    clear HA HP HQ
    go_enter Tryz.func78, Tryz.ntmps78
    go_wp2_with fail
    refine (K1.out _ (Ext.refl _)).mono ?_
    rintro e w1 ⟨rfl, h1⟩
    go_wp2_with fail
    refine (K2.out _ h1).mono ?_
    rintro e w2 ⟨rfl, h2⟩
    have X2 := Lib.hid (h1.trans h2)
    clear h1 h2
    have HR2 := Lib.hid (show r = decide (M < N) by rw [HR.out]; simp)
    go_wp2
    go_ret
    exact ⟨ret_bool HR2.out, X2.out⟩
def vz (vs : List Value) (i : Nat) : Value := vs.getD i (.slice none 0 0)
theorem vz_snoc (vs : List Value) (v : Value) (i : Nat) : vz (vs ++ [v]) i = if i < vs.length then vz vs i else if i = vs.length then v else .slice none 0 0 := by
  unfold vz
  rw [List.getD_eq_getElem?_getD, List.getD_eq_getElem?_getD, List.getElem?_append]
  by_cases h : i < vs.length
  · rw [if_pos h, if_pos h]
  · rw [if_neg h, if_neg h]
    by_cases h2 : i = vs.length
    · subst h2; simp
    · rw [if_neg h2, List.getElem?_eq_none (by simp; omega)]; rfl
structure OwnS (w : World) (base : Nat) (o : Value) (vs : List Value) (zf : Nat → List Int) : Prop where
  row : w.ownsRow base 38 1 o vs.length vs
  at_ : ∀ i, i < vs.length → OwnZ w base (vz vs i) (zf i)
theorem OwnS.nil (w : World) (base : Nat) (o : Value) (zf : Nat → List Int) (h : w.ownsRow base 38 1 o 0 []) : OwnS w base o [] zf := ⟨h, fun i hi => absurd hi (by simp)⟩
theorem OwnS.ext {w w' : World} {base : Nat} {o : Value} {vs : List Value} {zf : Nat → List Int} (h : OwnS w base o vs zf) (k : Ext w w') : OwnS w' base o vs zf := ⟨row_ext h.row k, fun i hi => (h.at_ i hi).ext k⟩
theorem OwnS.push {w w' : World} {base : Nat} {o o' v : Value} {vs : List Value} {zf : Nat → List Int} (h : OwnS w base o vs zf) (hv : OwnZ w base v (zf vs.length)) (hown : w'.ownsRow base 38 1 o' (vs.length + 1) (vs ++ [v])) (hgrow : w.grownBy w' o.ownBlock) :
    OwnS w' base o' (vs ++ [v]) zf := by
  have hne : (2 : TypeId) ≠ 38 := by decide
  refine ⟨by rw [List.length_append]; exact hown, fun i hi => ?_⟩
  rw [vz_snoc]
  rw [List.length_append] at hi
  by_cases g : i < vs.length
  · rw [if_pos g]; exact (h.at_ i g).kept hgrow (row_apart (h.at_ i g) h.row hne)
  · have e : i = vs.length := by simp at hi; omega
    rw [if_neg g, if_pos e, e]; exact hv.kept hgrow (row_apart hv h.row hne)
theorem rowsInfo : (Tryz.prog.info? 38).map (fun i => (i.zero, i.size, i.bytes)) = some (some (.slice none 0 0), 1, 24) := by kernel_rfl
theorem slc_one (a : Option Addr) (n c : Nat) : ∀ u ∈ ([.slice a n c] : List Value), u.oneCell' = true := fun u hu => by simp at hu; subst hu; rfl
theorem ownO_at {w : World} {base g j c : Nat} {l : List Nat} (h : OwnZ w base (.slice (some ⟨g, 0, none⟩) j c) (zO l)) (hl : l.length = j) (i : Nat) (hi : i < j) : w.cell? ⟨g, i, none⟩ = some (.int .i64 ((l.getD i 0 : Nat) : Int)) := by
  have h0 : w.ownsRow base 2 1 (.slice (some ⟨g, 0, none⟩) j c) (zO l).length (cellsZ (zO l)) := h
  have e : (zO l).length = j := by rw [zO_len, hl]
  rw [e] at h0
  rw [World.ownsRow.cellAt h0 i (by omega)]
  have hi2 : i < l.length := by omega
  unfold cellsZ zO
  simp [List.getD_eq_getElem?_getD, hi2]
theorem ownZ_cap {w : World} {base g j c : Nat} {zs : List Int} (h : OwnZ w base (.slice (some ⟨g, 0, none⟩) j c) zs) : j ≤ c := by
  rcases h.2 with ⟨e, _⟩ | ⟨g2, c2, _, e, _, _, h2, _⟩
  · cases e
  · cases e; exact h2
theorem cells_add_at {w : World} {g o : Nat} {zs : List Int} (h : ∀ i, i < zs.length → w.cell? ⟨g, o + i, none⟩ = some (.int .i64 (nz zs i))) : ∀ j u, (cellsZ zs)[j]? = some u → w.cell? ((⟨g, o, none⟩ : Addr).add j) = some u := by
  intro j u hu
  have hj : j < zs.length := by
    have := (List.getElem?_eq_some_iff.1 hu).1
    simpa [cellsZ] using this
  rw [show (⟨g, o, none⟩ : Addr).add j = ⟨g, o + j, none⟩ by simp [Addr.add], h j hj]
  unfold cellsZ at hu
  rw [List.getElem?_map, nz_at hj] at hu
  exact hu
theorem nz_zO (l : List Nat) (i : Nat) (h : i < l.length) : nz (zO l) i = ((l.getD i 0 : Nat) : Int) := by
  unfold nz zO
  simp [List.getD_eq_getElem?_getD, h]
theorem ord_next {pg : Nat → Int × Int} {j q : Nat} (h : poO (fun x => ahB (pg j) (pg ((ordO pg j).getD x 0))) j = q) : zO (ordO pg (j + 1)) = zO ((ordO pg j).take q) ++ ((j : Int) :: zO ((ordO pg j).drop q)) := by
  have e : atO pg j (ordO pg j) = q := by unfold atO; rw [ord_len]; exact h
  show zO (insO pg j (ordO pg j)) = _
  unfold insO
  rw [e]
  simp [zO]
def RelOs (W : World) (bT bo : Nat) (pg : Nat → Int × Int) (zf : Nat → List Int) (n : Nat) (o tm i : Value) (wr : World) : Prop :=
  ∃ (j : Nat) (vs : List Value) (g cap : Nat), i = .int .i64 j ∧ j ≤ n ∧ vs.length = j ∧ OwnS wr bT tm vs zf ∧ o = .slice (some ⟨g, 0, none⟩) j cap ∧ OwnZ wr bo o (zO (ordO pg j)) ∧ Ext W wr
def RelOt (W : World) (P : Nat → Bool) (j : Nat) (a : Value) (wr : World) : Prop := ∃ q : Nat, a = .int .i64 q ∧ q ≤ j ∧ poO P j = poO P q ∧ Ext W wr
set_option maxRecDepth 100000 in
set_option maxHeartbeats 16000000 in
theorem orderAt_spec (l k : L4) (a : Option Addr) (cap : Nat) (ms : List M5) (at_ : Option Addr) (ct : Nat) (ts : List T1) (t : Int) (w : World) (hf : Mks w a ms) (ht : Tks w at_ ts) :
    Calls Tryz.prog 20 #[CV l k (.slice a ms.length cap), .slice at_ ts.length ct, .int .i64 t] w (OrdA w l k ms ts t) := by
  obtain ⟨W0, hW0⟩ : ∃ W0, W0 = w.alloc (.cells (cellsC l k (.slice a ms.length cap)).toArray 30) := ⟨_, rfl⟩
  have HW0 := Lib.hid (show Ext w W0 from hW0 ▸ (Ext.refl w).alloc _)
  have zW : W0.heap.size = w.heap.size + 1 := by rw [hW0]; simp
  obtain ⟨W1, hW1⟩ : ∃ W1, W1 = W0.alloc (.cells #[] 2) := ⟨_, rfl⟩
  have HW := Lib.hid (HW0.out.trans (show Ext W0 W1 from hW1 ▸ (Ext.refl W0).alloc _))
  have BB := Lib.hid (show Box W1 w.heap.size (cellsC l k (.slice a ms.length cap)) from hW1 ▸ hW0 ▸ (Box.new rfl).alloc _)
  have O0 := Lib.hid (show OwnZ W1 (w.heap.size + 1) (.slice (some ⟨w.heap.size + 1, 0, none⟩) 0 0) [] from hW1 ▸ zW ▸ World.ownsRow_lit (base := W0.heap.size) (e := 2) (size := 1) W0 #[] 0 (Nat.le_refl _) (by unfold maxLen; omega) rfl)
  have HF := Lib.hid (hf.ext HW.out)
  have HT := Lib.hid (ht.ext HW.out)
  have hm := ht.1
  unfold maxLen at hm
  have zb : w.heap.size ≤ w.heap.size + 1 := by omega
  clear hf ht HW0 zW
  by_cases h16 : 16 < ts.length
  · have H := Lib.hid (oa_many (l := l) (k := k) (ms := ms) (t := t) h16)
    have q1 : (16 : Int) < (ts.length : Int) := by omega
    have q2 : decide ((16 : Int) < (ts.length : Int)) = true := decide_eq_true q1
    go_enter Tryz.func20, Tryz.ntmps20
    go_wp2
    go_ret2
    exact ⟨_, ret_vi H.out.1, by rw [H.out.2, ← hW0, ← hW1]; exact O0.out.mono zb, by rw [← hW0, ← hW1]; exact HW.out⟩
  have q1 : ¬ (16 : Int) < (ts.length : Int) := by omega
  have q2 : decide ((16 : Int) < (ts.length : Int)) = false := decide_eq_false q1
  obtain ⟨⟨p0, p1, p2, p3, p4, p5, p6, p7, p8⟩, _⟩ := Box.nine BB.out
  cases hq : crB l k ms
  · have g1 := lc_bad (l := l) (k := k) (ms := ms) (ok := tsB ts) (.inl hq)
    have HY := Lib.hid (oa_bad (t := t) h16 (by rw [g1]; decide))
    have HC := Lib.hid g1
    clear g1
    go_enter Tryz.func20, Tryz.ntmps20
    go_wp2_with fail
    rw [← hW0, ← hW1]
    clear hW0 hW1
    refine (isCourse_spec _ _ _ _ _ _ HF.out).mono ?_
    rw [hq]
    rintro e w1 ⟨rfl, hx⟩
    go_wp2
    go_ret2
    exact ⟨_, ret_vi (HY.out.1.trans HC.out), by rw [HY.out.2]; exact (O0.out.ext hx).mono zb, HW.out.trans hx⟩
  go_enter Tryz.func20, Tryz.ntmps20
  go_wp2_with fail
  rw [← hW0, ← hW1]
  clear hW0 hW1
  refine (isCourse_spec _ _ _ _ _ _ HF.out).mono ?_
  rw [hq]
  rintro e w1 ⟨rfl, hx⟩
  have X1 := Lib.hid hx
  have HQ := Lib.hid hq
  clear hx hq p0 p1 p2 p3 p4 p5 p6 p7 p8
  go_wp2
  go_loopw [9] (fun i wr => RelXB w1 (tkB ts) ts.length i wr) (fun i _ => ts.length - (intOf i).toNat)
  case atStart => exact ⟨0, rfl, Nat.zero_le _, fun j hj => absurd hj (by omega), Ext.refl _⟩
  case round =>
    obtain ⟨j, rfl, hj, hd, hx⟩ := hrel
    have HD := Lib.hid hd
    have HX := Lib.hid hx
    clear hd hx
    by_cases hj1 : j < ts.length
    · obtain ⟨b, off, rfl, hb⟩ := HT.out.row (by omega)
      have c0 := (X1.out.trans HX.out).cellOf (hb j hj1)
      have i0 : (0 : Int) ≤ (j : Int) := by omega
      have i1 : (j : Int) < (ts.length : Int) := by omega
      have T7 : IntKind.i64.wrap ((j : Int) + 1) = (j : Int) + 1 := IntWalk.i64_in _ (by omega)
      have hc := Lib.hid (Trk.isTrack_spec (tk ts j).a (tk ts j).c (tk ts j).fs wr ((HT.out.2.1 j hj1).ext (X1.out.trans HX.out)))
      clear hb
      cases h : tkB ts j
      · have g1 := lc_bad (l := l) (k := k) (ms := ms) (ok := tsB ts) (.inr (tsB_no hj1 h))
        have HY := Lib.hid (oa_bad (t := t) h16 (by rw [g1]; decide))
        have HC := Lib.hid g1
        rw [show trB (tk ts j).fs = false from h] at hc
        clear g1 h
        go_wp2_with fail
        refine hc.out.mono ?_
        rintro e w2 ⟨rfl, hy⟩
        have X2 := Lib.hid (X1.out.trans (HX.out.trans hy))
        go_wp2
        go_ret2
        exact ⟨_, ret_vi (HY.out.1.trans HC.out), by rw [HY.out.2]; exact (O0.out.ext X2.out).mono zb, HW.out.trans X2.out⟩
      · have H := Lib.hid h
        rw [show trB (tk ts j).fs = true from h] at hc
        clear h
        go_wp2_with fail
        refine hc.out.mono ?_
        rintro e w2 ⟨rfl, hy⟩
        have HY := Lib.hid (HX.out.trans hy)
        clear hy
        go_wp2
        go_roundw
        case rel => exact ⟨j + 1, by go_num, by omega, fun x hx => by rcases Nat.lt_or_ge x j with g | g; exact HD.out x g; exact (show x = j by omega) ▸ H.out, HY.out⟩
        case measure => simp [intOf]; omega
    · obtain rfl : j = ts.length := by omega
      have HV := Lib.hid (tsB_all HD.out)
      have X2 := Lib.hid (X1.out.trans HX.out)
      obtain ⟨⟨p0, p1, p2, p3, p4, p5, p6, p7, p8⟩, _⟩ := Box.nine (BB.out.ext X2.out)
      have KL := Lib.hid (l06Lines_spec l k a cap ms wr (HF.out.ext X2.out) HQ.out)
      clear HX HD
      cases hl : lsB l k ms
      · have g1 := lc_range (l := l) (k := k) (ms := ms) (ok := tsB ts) HQ.out HV.out hl
        have HY := Lib.hid (oa_bad (t := t) h16 (by rw [g1]; decide))
        have HC := Lib.hid g1
        unfold LinesS at KL
        rw [hl] at KL
        clear g1
        go_wp2_with fail
        refine KL.out.mono ?_
        rintro e w2 ⟨v, rfl, -, hy⟩
        have X3 := Lib.hid (X2.out.trans hy)
        clear hy
        go_wp2
        go_ret2
        exact ⟨_, ret_vi (HY.out.1.trans HC.out), by rw [HY.out.2]; exact (O0.out.ext X3.out).mono zb, HW.out.trans X3.out⟩
      have HY := Lib.hid (oa_yes (t := t) h16 (lc_yes HQ.out HV.out hl))
      unfold LinesS at KL
      rw [hl] at KL
      have HL := Lib.hid hl
      clear hl
      go_wp2_with fail
      refine KL.out.mono ?_
      rintro e w2 ⟨v, rfl, -, hy⟩
      have X3 := Lib.hid (X2.out.trans hy)
      clear hy KL p0 p1 p2 p3 p4 p5 p6 p7 p8
      have SL := Lib.hid (show (stS l k ms).length ≤ 10 by rw [stS_len]; have := cr_eight HQ.out; omega)
      have KT := Lib.hid (fun (a2 : Option Addr) (c2 : Nat) (fs : List F3) w' h1 h2 (hv : trB fs = true) => l06Times_spec l k a cap ms a2 c2 fs w' h1 h2 HQ.out HL.out hv)
      obtain ⟨ls, hls⟩ : ∃ ls, ls = stS l k ms := ⟨_, rfl⟩
      rw [← hls] at KT SL HY
      clear hls
      have OT0 := Lib.hid (show (w2.alloc (.cells #[] 38)).ownsRow w2.heap.size 38 1 (.slice (some ⟨w2.heap.size, 0, none⟩) 0 0) 0 [] from World.ownsRow_lit (base := w2.heap.size) (e := 38) (size := 1) w2 #[] 0 (Nat.le_refl _) (by unfold maxLen; omega) rfl)
      have OO0 := Lib.hid (show OwnZ (w2.alloc (.cells #[] 38)) (w.heap.size + 1) (.slice (some ⟨w.heap.size + 1, 0, none⟩) 0 0) [] from O0.out.ext (X3.out.alloc _))
      obtain ⟨i0, hin, hz0, hz1, hz2⟩ := info_parts rowsInfo
      obtain ⟨i1, hin1, hy0, hy1, hy2⟩ := info_parts int64Info
      go_wp2
      go_loopw [8, 12, 13] (fun o tm i wr => RelOs w2 w2.heap.size (w.heap.size + 1) (pgO ls ts t) (fun i => tmL (tk ts i).fs ls 0) ts.length o tm i wr) (fun o tm i _ => ts.length - (intOf i).toNat)
      case atStart => exact ⟨0, [], _, _, rfl, Nat.zero_le _, rfl, OwnS.nil _ _ _ _ OT0.out, rfl, OO0.out, (Ext.refl _).alloc _⟩
      case round =>
        obtain ⟨j, vs, g, cg, rfl, hj, hvs, hS, rfl, hO, hx⟩ := hrel
        have HS := Lib.hid hS
        have HO := Lib.hid hO
        have HX := Lib.hid hx
        clear hS hO hx OT0 OO0
        by_cases hj1 : j < ts.length
        · obtain ⟨b, off, rfl, hb⟩ := HT.out.row (by omega)
          have HT1 := Lib.hid (HT.out.2.1 j hj1)
          have c9 := X3.out.cellOf (hb j hj1)
          have i0' : (0 : Int) ≤ (j : Int) := by omega
          have i1' : (j : Int) < (ts.length : Int) := by omega
          have T7 : IntKind.i64.wrap ((j : Int) + 1) = (j : Int) + 1 := IntWalk.i64_in _ (by omega)
          have HVJ := Lib.hid (show trB (tk ts j).fs = true from tsB_at HV.out hj1)
          have TB := Lib.hid (fun i (hi : i < ts.length) => show (tmL (tk ts i).fs ls 0).length ≤ 10 from Nat.le_trans (tmL_len _ ls 0) SL.out)
          obtain ⟨pg, hpg⟩ : ∃ pg, pg = pgO ls ts t := ⟨_, rfl⟩
          rw [← hpg] at HO HY ⊢
          have PE := Lib.hid (fun i => show pg i = ((rcN (tmL (tk ts i).fs ls 0) t : Int), pgT (tmL (tk ts i).fs ls 0) t) from hpg ▸ rfl)
          clear hpg
          obtain ⟨zf, hzf⟩ : ∃ zf : Nat → List Int, zf = fun i => tmL (tk ts i).fs ls 0 := ⟨_, rfl⟩
          rw [← hzf] at HS ⊢
          have PE2 := Lib.hid (fun i => show pg i = ((rcN (zf i) t : Int), pgT (zf i) t) from hzf ▸ PE.out i)
          have TB2 := Lib.hid (fun i (hi : i < ts.length) => show (zf i).length ≤ 10 from hzf ▸ TB.out i hi)
          have ZJ := Lib.hid (show tmL (tk ts j).fs ls 0 = zf j from hzf ▸ rfl)
          clear hzf PE TB
          obtain ⟨T, hT⟩ : ∃ T, T = tk ts j := ⟨_, rfl⟩
          rw [← hT] at c9 HT1 HVJ ZJ
          clear hT hb
          have e0 : ∀ w', Ext w2 w' → w'.cell? ⟨w.heap.size, 0, none⟩ = some (.int .i64 l.a) := fun w' h => (X3.out.trans h).cellOf (BB.out 0 _ rfl).1
          have e1 : ∀ w', Ext w2 w' → w'.cell? ⟨w.heap.size, 1, none⟩ = some (.int .i64 l.b) := fun w' h => (X3.out.trans h).cellOf (BB.out 1 _ rfl).1
          have e2 : ∀ w', Ext w2 w' → w'.cell? ⟨w.heap.size, 2, none⟩ = some (.int .i64 l.c) := fun w' h => (X3.out.trans h).cellOf (BB.out 2 _ rfl).1
          have e3 : ∀ w', Ext w2 w' → w'.cell? ⟨w.heap.size, 3, none⟩ = some (.int .i64 l.d) := fun w' h => (X3.out.trans h).cellOf (BB.out 3 _ rfl).1
          have e4 : ∀ w', Ext w2 w' → w'.cell? ⟨w.heap.size, 4, none⟩ = some (.int .i64 k.a) := fun w' h => (X3.out.trans h).cellOf (BB.out 4 _ rfl).1
          have e5 : ∀ w', Ext w2 w' → w'.cell? ⟨w.heap.size, 5, none⟩ = some (.int .i64 k.b) := fun w' h => (X3.out.trans h).cellOf (BB.out 5 _ rfl).1
          have e6 : ∀ w', Ext w2 w' → w'.cell? ⟨w.heap.size, 6, none⟩ = some (.int .i64 k.c) := fun w' h => (X3.out.trans h).cellOf (BB.out 6 _ rfl).1
          have e7 : ∀ w', Ext w2 w' → w'.cell? ⟨w.heap.size, 7, none⟩ = some (.int .i64 k.d) := fun w' h => (X3.out.trans h).cellOf (BB.out 7 _ rfl).1
          have e8 : ∀ w', Ext w2 w' → w'.cell? ⟨w.heap.size, 8, none⟩ = some (.slice a ms.length cap) := fun w' h => (X3.out.trans h).cellOf (BB.out 8 _ rfl).1
          have e9 : ∀ w', Ext w2 w' → w'.cell? ⟨b, off + j, none⟩ = some (.slice T.a T.fs.length T.c) := fun w' h => h.cellOf c9
          go_upto_region 18 with fail
          refine wp_region_held_drew (S := fun w' => Ext w2 w') (by kernel_rfl) (by (try dsimp only); exact Ext.drew HX.out) (fun hHeld => ?_)
          have hE : Ext w2 wr.drew := Ext.drew HX.out
          refine Ord.K 0 53 ?_; refine Ord.K 1 54 ?_; refine Ord.K 2 55 ?_; refine Ord.K 3 56 ?_; refine Ord.K 4 57 ?_; refine Ord.K 5 58 ?_
          refine wpAnyH_ready (rs := [6]) (by kernel_rfl) (by simp) ?_
          refine AllReadyH.cons rfl (fun K hK => ?_) AllReadyH.nil
          go_simp
          go_at_call 63
          refine (KT.out _ _ _ wr.drew (HF.out.ext (X3.out.trans hE)) (HT1.out.ext (X3.out.trans hE)) HVJ.out).mono ?_
          rw [ZJ.out]
          rintro e w3 ⟨v, rfl, hO3, hy⟩
          obtain ⟨az, cz, rfl, hZ3⟩ := hO3.zxs (by have := TB2.out j hj1; unfold maxLen; omega)
          go_wp2_with fail
          have hE3 := hE.trans hy
          refine hK.out _ _ hE3 (fun hHeld => ?_)
          clear hK K
          (try simp only [Act.put, Ord.a, Ord.b, Ord.c])
          refine wpAnyH_ready (rs := [7]) (by kernel_rfl) (by simp) ?_
          refine AllReadyH.cons rfl (fun K hK => ?_) AllReadyH.nil
          go_simp
          have hE4 : Ext w2 (w3.alloc (.cells #[.slice az (zf j).length cz] 38)) := hE3.alloc _
          refine hK.out _ _ hE4 (fun hHeld => ?_)
          clear hK K
          (try simp only [Act.put, Ord.a, Ord.b, Ord.c])
          have hwr4 : Ext wr (w3.alloc (.cells #[.slice az (zf j).length cz] 38)) := ((Ext.refl wr).drew.trans hy).alloc _
          have SA := HS.out.ext hwr4
          have OA := HO.out.ext hwr4
          have VA := (OwnZ.mono hO3 (show w2.heap.size ≤ wr.drew.heap.size from hE.size)).ext ((Ext.refl w3).alloc (.cells #[.slice az (zf j).length cz] 38))
          have CC := lit_cells (w := w3) (n := w3.heap.size) (u := .slice az (zf j).length cz) (t := 38) rfl
          refine wpAnyH_ready (rs := [8]) (by kernel_rfl) (by simp) ?_
          refine AllReadyH.cons rfl (fun K hK => ?_) AllReadyH.nil
          refine step_append_at7 rfl (.tmp 53) (.tmp 60) 140 rfl w2.heap.size 38 i0 (.slice none 0 0) 1 24 Tryz.underlying140 hin hz0 hz1 hz2 rfl (by decide) _ vs.length _ (by simp [Act.eval, Act.put]) SA.row ⟨w3.heap.size, 0, none⟩ 1 1 [.slice az (zf j).length cz] (by simp [Act.eval, Act.put]) rfl CC (slc_one _ _ _) (by unfold maxLen; omega) (by omega) (by have := Ext.size hE4; omega) ?_
          intro v1 w5 hown hgrow hat
          have S5 := Lib.hid (SA.push (by rw [hvs]; exact VA) hown hgrow)
          have X5 := row_grown (w0 := w2) SA.row hgrow (Nat.le_refl _) hE4
          have O5 := Lib.hid (OA.kept hgrow (row_apart OA SA.row (by decide)))
          refine hK.out _ _ X5 (fun hHeld => ?_)
          clear hK K
          (try simp only [Act.put, Ord.a, Ord.b, Ord.c])
          refine Ord.K 9 12 ?_
          refine wpAnyH_done (by kernel_rfl) ?_ _
          replace X5 := Lib.hid X5
          clear hown hgrow hat SA OA VA CC hwr4 hE4 hE3 hE hy hO3 hZ3 hHeld e0 e1 e2 e3 e4 e5 e6 e7 e8 e9 c9
          obtain ⟨gt, cgt, rfl, _, hbt, hct⟩ := (row_cases S5.out.row).resolve_left (fun e => by have := e.2; simp at this)
          have ev : (vs ++ [Value.slice az (zf j).length cz]).length = j + 1 := by simp [hvs]
          rw [ev] at hct ⊢
          have HZ5 := Lib.hid (fun i (hi : i < j + 1) => show ∃ ai ci, vz (vs ++ [Value.slice az (zf j).length cz]) i = .slice ai (zf i).length ci ∧ Zxs w5 ai (zf i) from (S5.out.at_ i (by rw [ev]; exact hi)).zxs (by have := TB2.out i (by omega); unfold maxLen; omega))
          have HCT := Lib.hid (fun i (hi : i < j + 1) => show w5.cell? ⟨gt, i, none⟩ = some (vz (vs ++ [Value.slice az (zf j).length cz]) i) from by
            rw [hct i (by omega)]; unfold vz; rw [List.getD_eq_getElem?_getD, List.getElem?_eq_getElem (by rw [ev]; exact hi)]; rfl)
          have OC := Lib.hid (fun i (hi : i < j) => ownO_at O5.out (ord_len pg j) i hi)
          generalize vs ++ [Value.slice az (zf j).length cz] = vt at *
          clear hct
          have EV := Lib.hid ev
          clear ev
          have HCG := ownZ_cap O5.out
          go_wp2
          go_loopw [14] (fun q wr => RelOt w5 (fun x => ahB (pg j) (pg ((ordO pg j).getD x 0))) j q wr) (fun q _ => (intOf q).toNat)
          case atStart => exact ⟨j, rfl, Nat.le_refl _, rfl, Ext.refl _⟩
          case round =>
            obtain ⟨q, rfl, hq, hpo, hx⟩ := hrel
            have HP := Lib.hid hpo
            have HX6 := Lib.hid hx
            have hE6 := hx
            clear hx hpo
            obtain ⟨B, hB⟩ : ∃ B : Bool, B = (decide (0 < q) && ahB (pg j) (pg ((ordO pg j).getD (q - 1) 0))) := ⟨_, rfl⟩
            go_upto_region 20 with fail
            go_cut [81] (fun s wx => s = .bool B ∧ Ext w5 wx)
            case first =>
              by_cases h0 : q = 0
              · subst h0
                have HB := Lib.hid (show B = false from hB)
                clear hB
                refine wp_region_held_drew (S := (fun w' => Ext w5 w')) (by kernel_rfl) (by (try dsimp only); first | go_keep | exact (Ext.refl _).drew | exact Res.new2.drew | exact Res.new4.drew | exact ResB.drew (by assumption) | exact ResC.drew (by assumption) | assumption | exact Ext.drew (by assumption) | exact Res.drew (by assumption)) (fun hHeld => ?_)
                refine Ord.K 0 64 ?_
                refine Ord.K 1 65 ?_
                refine Ord.K 2 66 ?_
                (first | (refine Ord.s 3 67 ?_ ?_; rfl; (try simp only [Act.put, Ord.a, Ord.b, Ord.c])) | refine Ord.K 3 67 ?_)
                (first | (refine Ord.s 4 68 ?_ ?_; rfl; (try simp only [Act.put, Ord.a, Ord.b, Ord.c])) | refine Ord.K 4 68 ?_)
                (first | (refine Ord.s 5 69 ?_ ?_; rfl; (try simp only [Act.put, Ord.a, Ord.b, Ord.c])) | refine Ord.K 5 69 ?_)
                (first | (refine Ord.s 6 70 ?_ ?_; rfl; (try simp only [Act.put, Ord.a, Ord.b, Ord.c])) | refine Ord.K 6 70 ?_)
                (first | (refine Ord.s 7 71 ?_ ?_; rfl; (try simp only [Act.put, Ord.a, Ord.b, Ord.c])) | refine Ord.K 7 71 ?_)
                (first | (refine Ord.s 8 72 ?_ ?_; rfl; (try simp only [Act.put, Ord.a, Ord.b, Ord.c])) | refine Ord.K 8 72 ?_)
                (first | (refine Ord.s 9 73 ?_ ?_; rfl; (try simp only [Act.put, Ord.a, Ord.b, Ord.c])) | refine Ord.K 9 73 ?_)
                (first | (refine Ord.s 10 74 ?_ ?_; rfl; (try simp only [Act.put, Ord.a, Ord.b, Ord.c])) | refine Ord.K 10 74 ?_)
                (first | (refine Ord.s 11 75 ?_ ?_; rfl; (try simp only [Act.put, Ord.a, Ord.b, Ord.c])) | refine Ord.K 11 75 ?_)
                (first | (refine Ord.s 12 76 ?_ ?_; rfl; (try simp only [Act.put, Ord.a, Ord.b, Ord.c])) | refine Ord.K 12 76 ?_)
                (first | (refine Ord.s 13 77 ?_ ?_; rfl; (try simp only [Act.put, Ord.a, Ord.b, Ord.c])) | refine Ord.K 13 77 ?_)
                (first | (refine Ord.s 14 78 ?_ ?_; rfl; (try simp only [Act.put, Ord.a, Ord.b, Ord.c])) | refine Ord.K 14 78 ?_)
                (first | (refine Ord.s 15 79 ?_ ?_; rfl; (try simp only [Act.put, Ord.a, Ord.b, Ord.c])) | refine Ord.K 15 79 ?_)
                (first | (refine Ord.s 16 80 ?_ ?_; rfl; (try simp only [Act.put, Ord.a, Ord.b, Ord.c])) | (refine wpAnyH_ready (rs := [16]) (by kernel_rfl) (by simp) ?_; refine AllReadyH.cons rfl (fun K hK => ?_) AllReadyH.nil; go_simp; (fail); go_wp2_with fail; (refine hK.out _ _ (by first | assumption | exact Ext.trans (by assumption) hy | exact Res.ext (by assumption) hy | exact ResB.ext (by assumption) hy | exact ResC.ext (by assumption) hy | (go_split_ands; (repeat' apply And.intro) <;> exact Ext.cellOf hy (by assumption))) (fun hHeld => ?_)); clear hK K; (try simp only [Act.put, Ord.a, Ord.b, Ord.c])))
                refine Ord.K 17 81 ?_
                refine wpAnyH_done (by kernel_rfl) ?_ _
                go_wp2_with fail
                go_meet
                exact ⟨by rw [HB.out], hHeld⟩
              · obtain ⟨n, rfl⟩ : ∃ n, q = n + 1 := ⟨q - 1, by omega⟩
                rw [Nat.add_sub_cancel] at hB
                have HB := Lib.hid (show B = ahB (pg j) (pg ((ordO pg j).getD n 0)) by rw [hB]; simp)
                have hx1 := ord_lt (pg := pg) (n := j) (j := n) (by omega)
                have k1 : ∀ w', Ext w5 w' → w'.cell? ⟨g, n, none⟩ = some (.int .i64 (((ordO pg j).getD n 0 : Nat) : Int)) := fun w' h => h.cellOf (OC.out n (by omega))
                obtain ⟨x, hxx⟩ : ∃ x, x = (ordO pg j).getD n 0 := ⟨_, rfl⟩
                rw [← hxx] at HB hx1 k1
                clear hxx hB
                obtain ⟨aj, cj, hvj, hzj⟩ := HZ5.out j (by omega)
                obtain ⟨ax, cx, hvx, hzx⟩ := HZ5.out x (by omega)
                have hcj := HCT.out j (by omega)
                have hcx := HCT.out x (by omega)
                rw [hvj] at hcj
                rw [hvx] at hcx
                have k0 : ∀ w', Ext w5 w' → w'.cell? ⟨gt, j, none⟩ = some (.slice aj (zf j).length cj) := fun w' h => h.cellOf hcj
                have k2 : ∀ w', Ext w5 w' → w'.cell? ⟨gt, x, none⟩ = some (.slice ax (zf x).length cx) := fun w' h => h.cellOf hcx
                have KA := Lib.hid (fun w' (h : Ext w5 w') => l06Ahead_spec aj cj (zf j) ax cx (zf x) t w' (hzj.ext h) (hzx.ext h) (by have := TB2.out j hj1; omega) (by have := TB2.out x (by omega); omega))
                rw [← PE2.out j, ← PE2.out x, ← HB.out] at KA
                have d0 : (0 : Int) ≤ (j : Int) := by omega
                have d1 : (j : Int) < ((j + 1 : Nat) : Int) := by omega
                have d1' : (j : Int) < (j : Int) + 1 := by omega
                have d2 : (0 : Int) ≤ (n : Int) := by omega
                have d3 : (n : Int) < (j : Int) := by omega
                have d4 : (0 : Int) ≤ (x : Int) := by omega
                have d5 : (x : Int) < ((j + 1 : Nat) : Int) := by omega
                have d5' : (x : Int) < (j : Int) + 1 := by omega
                have d6 : (0 : Int) < ((n + 1 : Nat) : Int) := by omega
                have d6' : (0 : Int) < (n : Int) + 1 := by omega
                have T1 : IntKind.i64.wrap (((n + 1 : Nat) : Int) - 1) = (n : Int) := by rw [IntWalk.i64_in _ (by omega)]; omega
                have T2 : IntKind.i64.wrap ((n : Int) + 1 - 1) = (n : Int) := by rw [IntWalk.i64_in _ (by omega)]; omega
                have T3 : IntKind.i64.wrap (n : Int) = (n : Int) := IntWalk.i64_in _ (by omega)
                clear hvj hvx hzj hzx hcj hcx hx1
                refine wp_region_held_drew (S := (fun w' => Ext w5 w')) (by kernel_rfl) (by (try dsimp only); first | go_keep | exact (Ext.refl _).drew | exact Res.new2.drew | exact Res.new4.drew | exact ResB.drew (by assumption) | exact ResC.drew (by assumption) | assumption | exact Ext.drew (by assumption) | exact Res.drew (by assumption)) (fun hHeld => ?_)
                refine Ord.K 0 64 ?_
                refine Ord.K 1 65 ?_
                refine Ord.K 2 66 ?_
                (first | (refine Ord.s 3 67 ?_ ?_; rfl; (try simp only [Act.put, Ord.a, Ord.b, Ord.c])) | refine Ord.K 3 67 ?_)
                (first | (refine Ord.s 4 68 ?_ ?_; rfl; (try simp only [Act.put, Ord.a, Ord.b, Ord.c])) | refine Ord.K 4 68 ?_)
                (first | (refine Ord.s 5 69 ?_ ?_; rfl; (try simp only [Act.put, Ord.a, Ord.b, Ord.c])) | refine Ord.K 5 69 ?_)
                (first | (refine Ord.s 6 70 ?_ ?_; rfl; (try simp only [Act.put, Ord.a, Ord.b, Ord.c])) | refine Ord.K 6 70 ?_)
                (first | (refine Ord.s 7 71 ?_ ?_; rfl; (try simp only [Act.put, Ord.a, Ord.b, Ord.c])) | refine Ord.K 7 71 ?_)
                (first | (refine Ord.s 8 72 ?_ ?_; rfl; (try simp only [Act.put, Ord.a, Ord.b, Ord.c])) | refine Ord.K 8 72 ?_)
                (first | (refine Ord.s 9 73 ?_ ?_; rfl; (try simp only [Act.put, Ord.a, Ord.b, Ord.c])) | refine Ord.K 9 73 ?_)
                (first | (refine Ord.s 10 74 ?_ ?_; rfl; (try simp only [Act.put, Ord.a, Ord.b, Ord.c])) | refine Ord.K 10 74 ?_)
                (first | (refine Ord.s 11 75 ?_ ?_; rfl; (try simp only [Act.put, Ord.a, Ord.b, Ord.c])) | refine Ord.K 11 75 ?_)
                (first | (refine Ord.s 12 76 ?_ ?_; rfl; (try simp only [Act.put, Ord.a, Ord.b, Ord.c])) | refine Ord.K 12 76 ?_)
                (first | (refine Ord.s 13 77 ?_ ?_; rfl; (try simp only [Act.put, Ord.a, Ord.b, Ord.c])) | refine Ord.K 13 77 ?_)
                (first | (refine Ord.s 14 78 ?_ ?_; rfl; (try simp only [Act.put, Ord.a, Ord.b, Ord.c])) | refine Ord.K 14 78 ?_)
                (first | (refine Ord.s 15 79 ?_ ?_; rfl; (try simp only [Act.put, Ord.a, Ord.b, Ord.c])) | refine Ord.K 15 79 ?_)
                (first | (refine Ord.s 16 80 ?_ ?_; rfl; (try simp only [Act.put, Ord.a, Ord.b, Ord.c])) | (refine wpAnyH_ready (rs := [16]) (by kernel_rfl) (by simp) ?_; refine AllReadyH.cons rfl (fun K hK => ?_) AllReadyH.nil; go_simp; ((go_at_call 78; refine (KA.out _ (by first | assumption | exact Ext.drew HX6.out)).mono ?_; rintro e w7 ⟨rfl, hy⟩)); go_wp2_with fail; (refine hK.out _ _ (by first | assumption | exact Ext.trans (by assumption) hy | exact Res.ext (by assumption) hy | exact ResB.ext (by assumption) hy | exact ResC.ext (by assumption) hy | (go_split_ands; (repeat' apply And.intro) <;> exact Ext.cellOf hy (by assumption))) (fun hHeld => ?_)); clear hK K; (try simp only [Act.put, Ord.a, Ord.b, Ord.c])))
                refine Ord.K 17 81 ?_
                refine wpAnyH_done (by kernel_rfl) ?_ _
                go_wp2_with fail
                go_meet
                exact ⟨rfl, hHeld⟩
            case rest =>
              obtain ⟨rfl, hz⟩ := hcut
              have HZ6 := Lib.hid hz
              clear hz
              cases B with
              | true =>
                have h0 : 0 < q := by
                  have := hB.symm
                  simp only [Bool.and_eq_true, decide_eq_true_eq] at this
                  exact this.1
                obtain ⟨n, rfl⟩ : ∃ n, q = n + 1 := ⟨q - 1, by omega⟩
                rw [Nat.add_sub_cancel] at hB
                have HB := Lib.hid (show ahB (pg j) (pg ((ordO pg j).getD n 0)) = true by rw [show ahB (pg j) (pg ((ordO pg j).getD n 0)) = true from by have := hB.symm; simp only [Bool.and_eq_true] at this; exact this.2])
                have T1 : IntKind.i64.wrap (((n + 1 : Nat) : Int) - 1) = (n : Int) := by rw [IntWalk.i64_in _ (by omega)]; omega
                have T2 : IntKind.i64.wrap ((n : Int) + 1 - 1) = (n : Int) := by rw [IntWalk.i64_in _ (by omega)]; omega
                have T3 : IntKind.i64.wrap (n : Int) = (n : Int) := IntWalk.i64_in _ (by omega)
                clear hB
                go_wp2
                go_roundw
                case rel => exact ⟨n, rfl, by omega, by rw [HP.out]; exact po_yes HB.out, HZ6.out⟩
                case measure => simp [intOf] <;> omega
              | false =>
                have HQ2 := Lib.hid (show poO (fun x => ahB (pg j) (pg ((ordO pg j).getD x 0))) j = q by
                  rw [HP.out]
                  rcases Nat.eq_zero_or_pos q with e | e
                  · rw [e]; rfl
                  · obtain ⟨n, rfl⟩ : ∃ n, q = n + 1 := ⟨q - 1, by omega⟩
                    refine po_no ?_
                    rw [Nat.add_sub_cancel] at hB
                    have := hB.symm
                    simpa using this)
                clear hB HP
                have d0 : (0 : Int) ≤ (q : Int) := by omega
                have d1 : (q : Int) ≤ (j : Int) := by omega
                have HN := Lib.hid (ord_next HQ2.out)
                have hdl : (zO ((ordO pg j).drop q)).length = j - q := by rw [zO_len, List.length_drop, ord_len]
                have htl : (zO ((ordO pg j).take q)).length = q := by rw [zO_len, List.length_take, ord_len]; omega
                have CD := Lib.hid (fun i (hi : i < (zO ((ordO pg j).drop q)).length) => show w5.cell? ⟨g, q + i, none⟩ = some (.int .i64 (nz (zO ((ordO pg j).drop q)) i)) from by
                  rw [OC.out _ (by omega), nz_zO _ _ (by rw [List.length_drop, ord_len]; omega)]
                  simp [List.getD_eq_getElem?_getD, List.getElem?_drop])
                have CT := Lib.hid (fun i (hi : i < (zO ((ordO pg j).take q)).length) => show w5.cell? ⟨g, i, none⟩ = some (.int .i64 (nz (zO ((ordO pg j).take q)) i)) from by
                  rw [OC.out _ (by omega), nz_zO _ _ (by rw [List.length_take, ord_len]; omega)]
                  simp [List.getD_eq_getElem?_getD, List.getElem?_take, show i < q by omega])
                generalize zO ((ordO pg j).drop q) = zd at *
                generalize zO ((ordO pg j).take q) = zt at *
                obtain ⟨rs, hrs⟩ : ∃ rs : List Int, rs = (j : Int) :: zd := ⟨_, rfl⟩
                rw [← hrs] at HN
                have hrl : rs.length = 1 + (j - q) := by rw [hrs]; simp [hdl]; omega
                have P3 := Lib.hid (show 1 + (j - q) ≤ maxLen by unfold maxLen; omega)
                have P4 := Lib.hid (show (1 + (j - q)) * 8 ≤ 140737488355328 by omega)
                have PZ := Lib.hid (ints_one zd)
                have PL := Lib.hid (show (cellsZ zd).length = (j - q) * 1 by simp [cellsZ, hdl])
                have d2 : (q : Int) ≤ (cg : Int) := by omega
                have d3 : (j : Int) ≤ (cg : Int) := by omega
                have OL := Lib.hid (show (wc.alloc (.cells #[.int .i64 (j : Int)] 2)).ownsRow wc.heap.size 2 1 (.slice (some ⟨wc.heap.size, 0, none⟩) 1 1) 1 [.int .i64 (j : Int)] from World.ownsRow_lit (base := wc.heap.size) (e := 2) (size := 1) wc #[.int .i64 (j : Int)] 1 (Nat.le_refl _) (by unfold maxLen; omega) rfl)
                have XL := Lib.hid (show Ext w5 (wc.alloc (.cells #[.int .i64 (j : Int)] 2)) from HZ6.out.alloc _)
                have zL := Lib.hid (show wc.heap.size ≤ (wc.alloc (.cells #[.int .i64 (j : Int)] 2)).heap.size by simp)
                go_upto_region 22 with fail
                go_cut [15] (fun s wx => ∃ gr cr, s = .slice (some ⟨gr, 0, none⟩) rs.length cr ∧ OwnZ wx wc.heap.size s rs ∧ Ext w5 wx)
                case first =>
                  have FIN : ∀ (v1 : Value) (w6 : World), w6.ownsRow wc.heap.size 2 1 v1 (1 + (j - q)) ([.int .i64 (j : Int)] ++ cellsZ zd) → (wc.alloc (.cells #[.int .i64 (j : Int)] 2)).grownBy w6 (some wc.heap.size) → ∃ gr cr, v1 = .slice (some ⟨gr, 0, none⟩) rs.length cr ∧ OwnZ w6 wc.heap.size v1 rs ∧ Ext w5 w6 := fun v1 w6 h hg => by
                    have h1 : OwnZ w6 wc.heap.size v1 rs := by
                      unfold OwnZ
                      rw [hrl, show cellsZ rs = [.int .i64 (j : Int)] ++ cellsZ zd by rw [hrs]; rfl]
                      exact h
                    obtain ⟨gr, cr, e, _⟩ := h1.cases.resolve_left (fun e => by rw [hrs] at e; exact absurd e.2 (by simp))
                    exact ⟨gr, cr, e, h1, grownR XL.out hg (fun k e => by cases e; exact HZ6.out.size)⟩
                  replace FIN := Lib.hid FIN
                  by_cases hcq : cg = q
                  · have hjq : j = q := by omega
                    have hz : zd = [] := List.length_eq_zero_iff.1 (by omega)
                    have hj0 : j - q = 0 := by omega
                    have FF := Lib.hid (FIN.out (.slice (some ⟨wc.heap.size, 0, none⟩) 1 1) _ (by rw [hj0, hz]; exact OL.out) ⟨rfl, rfl, rfl, Nat.le_refl _, fun _ _ _ => rfl⟩)
                    subst hcq
                    clear HN hrs hrl hdl htl CD CT hjq hz hj0
                    go_wp2_with fail
                    go_meet
                    exact FF.out
                  · have hcq2 : ¬ q = cg := fun e => hcq e.symm
                    have CC := Lib.hid (show ∀ jj u, (cellsZ zd)[jj]? = some u → (wc.alloc (.cells #[.int .i64 (j : Int)] 2)).cell? ((⟨g, q, none⟩ : Addr).add jj) = some u from cells_add_at (fun i hi => XL.out.cellOf (CD.out i hi)))
                    clear HN hrs hrl hdl htl CD CT
                    go_wp2_with (at_builtin; refine wpList_append_own _ rfl _ _ 38 rfl wc.heap.size 2 i1 (.int .i64 0) 1 8 Tryz.underlying38 hin1 hy0 hy1 hy2 rfl (by decide) _ 1 _ rfl OL.out ⟨g, q, none⟩ (j - q) _ (cellsZ zd) rfl PL.out CC.out PZ.out P3.out P4.out zL.out ?_; intro v1 w6 hown hgrow hnil; have FF := Lib.hid (FIN.out v1 w6 hown hgrow); clear hown hgrow hnil)
                    go_meet
                    exact FF.out
                case rest =>
                  obtain ⟨gr, cr, rfl, hor, hxr⟩ := hcut
                  have XR := Lib.hid hxr
                  have OR := Lib.hid hor
                  clear hor hxr OL XL zL CD P3 P4 PZ PL HX6 HZ6 hrs hdl
                  have PZ := Lib.hid (ints_one zt)
                  have PR := Lib.hid (ints_one rs)
                  have PL := Lib.hid (show (cellsZ zt).length = q * 1 by simp [cellsZ, htl])
                  have PLR := Lib.hid (show (cellsZ rs).length = rs.length * 1 by simp [cellsZ])
                  have OL := Lib.hid (show (wc.alloc (.cells #[] 2)).ownsRow wc.heap.size 2 1 (.slice (some ⟨wc.heap.size, 0, none⟩) 0 0) 0 [] from World.ownsRow_lit (base := wc.heap.size) (e := 2) (size := 1) wc #[] 0 (Nat.le_refl _) (by unfold maxLen; omega) rfl)
                  have XL := Lib.hid (show Ext wc (wc.alloc (.cells #[] 2)) from (Ext.refl wc).alloc _)
                  have zL := Lib.hid (show wc.heap.size ≤ (wc.alloc (.cells #[] 2)).heap.size by simp)
                  have CC := Lib.hid (show ∀ jj u, (cellsZ zt)[jj]? = some u → (wc.alloc (.cells #[] 2)).cell? ((⟨g, 0, none⟩ : Addr).add jj) = some u from cells_add (fun i hi => XL.out.cellOf (XR.out.cellOf (CT.out i hi))))
                  have CR := Lib.hid (show ∀ i, i < rs.length → wc.cell? ⟨gr, i, none⟩ = some (.int .i64 (nz rs i)) from fun i hi => by
                    obtain ⟨g9, c9, e9, _, h9, _⟩ := OR.out.cases.resolve_left (fun e => by cases e.1)
                    cases e9; exact h9 i hi)
                  have P3 := Lib.hid (show 0 + q ≤ maxLen by unfold maxLen; omega)
                  have P4 := Lib.hid (show (0 + q) * 8 ≤ 140737488355328 by omega)
                  have P5 := Lib.hid (show 0 + q + rs.length ≤ maxLen by unfold maxLen; omega)
                  have P6 := Lib.hid (show (0 + q + rs.length) * 8 ≤ 140737488355328 by omega)
                  have ET := Lib.hid (And.intro htl hrl)
                  clear CT htl hrl
                  go_wp2_with (first
                    | (at_builtin; refine wpList_append_own _ rfl _ _ 38 rfl wc.heap.size 2 i1 (.int .i64 0) 1 8 Tryz.underlying38 hin1 hy0 hy1 hy2 rfl (by decide) _ 0 _ rfl OL.out ⟨g, 0, none⟩ q _ (cellsZ zt) rfl PL.out CC.out PZ.out P3.out P4.out zL.out ?_; intro v2 w7 hown hgrow hnil
                       have X7 := Lib.hid (row_grown (w0 := wc) OL.out hgrow (Nat.le_refl _) XL.out)
                       have O7 := Lib.hid hown
                       have C7 := Lib.hid (cells_add (fun i hi => X7.out.cellOf (CR.out i hi)))
                       have z7 := Lib.hid (X7.out.size)
                       clear hown hgrow hnil)
                    | (at_builtin; refine wpList_append_own _ rfl _ _ 38 rfl wc.heap.size 2 i1 (.int .i64 0) 1 8 Tryz.underlying38 hin1 hy0 hy1 hy2 rfl (by decide) _ (0 + q) _ rfl O7.out ⟨gr, 0, none⟩ rs.length _ (cellsZ rs) rfl PLR.out C7.out PR.out P5.out P6.out z7.out ?_; intro v3 w8 hown hgrow hnil
                       have X8 := Lib.hid (row_grown (w0 := wc) O7.out hgrow (Nat.le_refl _) X7.out)
                       have O8 := Lib.hid hown
                       clear hown hgrow hnil))
                  have OZ : OwnZ w8 wc.heap.size v3 (zt ++ rs) := OwnZ.appO (by have h := O8.out; rw [show 0 + q = zt.length by rw [ET.out.1]; omega, List.nil_append] at h; exact h)
                  have hlen : (zt ++ rs).length = j + 1 := by rw [List.length_append, ET.out.1, ET.out.2]; omega
                  obtain ⟨g3, c3, e3, _⟩ := OZ.cases.resolve_left (fun e => by have := congrArg List.length e.2; rw [hlen] at this; simp at this)
                  rw [hlen] at e3
                  have hb := World.block_lt_of_cell? W1 _ (BB.out 0 _ rfl).1
                  have s1 := X3.out.size
                  have s2 := X5.out.size
                  have s3 := XR.out.size
                  refine ⟨⟨j + 1, vt, g3, c3, by go_num, hj1, EV.out, by have h := S5.out.ext (XR.out.trans X8.out); rw [EV.out] at h; exact h, e3, by rw [HN.out]; exact OZ.mono (by dsimp only at hb; omega), X5.out.trans (XR.out.trans X8.out)⟩, by simp [intOf]; omega⟩
        · obtain rfl : j = ts.length := by omega
          go_wp2
          go_ret2
          exact ⟨_, ret_vi HY.out.1, by rw [HY.out.2]; exact HO.out.mono zb, HW.out.trans (X3.out.trans HX.out)⟩
end Go.Proofs.YtmlojndkpnhalaaGreat.Crs
