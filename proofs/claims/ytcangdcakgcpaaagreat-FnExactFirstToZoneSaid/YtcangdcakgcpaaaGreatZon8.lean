import Derived.Test.YtcangdcakgcpaaaGreatZof
import Derived.Test.YtcangdcakgcpaaaGreatSid
namespace Go.Proofs.YtcangdcakgcpaaaGreat.Crs
open Go.ChangeShapes Go.WideShapes Go.ChangeAt Go.RowKit Go.PlainAid
open Go.Proofs.YtcangdcakgcpaaaGreat.Num Go.Proofs.YtcangdcakgcpaaaGreat.Kit Go.Proofs.YtcangdcakgcpaaaGreat.Pts Go.Proofs.YtcangdcakgcpaaaGreat.Seg Go.Proofs.YtcangdcakgcpaaaGreat.Div Go.Proofs.YtcangdcakgcpaaaGreat.Root Go.Proofs.YtcangdcakgcpaaaGreat.Rt Go.Proofs.YtcangdcakgcpaaaGreat.Gcd
open Go.Proofs.YtcangdcakgcpaaaGreat.Trk (F3 Fxs Tr trB fx)
open Go.Proofs.YtcangdcakgcpaaaGreat.Win (wiB)
set_option linter.unusedVariables false
set_option linter.unusedSimpArgs false
def beT (fs : List F3) (x : Int) : Int := (fx fs x.toNat).t
def fzS (m : M5) (ts : List T1) : Nat → Int × Int
  | 0 => (-1, 0)
  | n + 1 => match tzL m (tk ts n).fs with
    | [] => fzS m ts n
    | x :: _ => if (fzS m ts n).1 < 0 ∨ beT (tk ts n).fs x < (fzS m ts n).2 then ((n : Int), beT (tk ts n).fs x) else fzS m ts n
theorem fz_nil {m : M5} {ts : List T1} {n : Nat} (h : tzL m (tk ts n).fs = []) : fzS m ts (n + 1) = fzS m ts n := by
  show (match tzL m (tk ts n).fs with | [] => fzS m ts n | x :: _ => if (fzS m ts n).1 < 0 ∨ beT (tk ts n).fs x < (fzS m ts n).2 then ((n : Int), beT (tk ts n).fs x) else fzS m ts n) = _
  rw [h]
theorem fz_yes {m : M5} {ts : List T1} {n : Nat} {x : Int} {xs : List Int} (h : tzL m (tk ts n).fs = x :: xs) (g : (fzS m ts n).1 < 0 ∨ beT (tk ts n).fs x < (fzS m ts n).2) : fzS m ts (n + 1) = ((n : Int), beT (tk ts n).fs x) := by
  show (match tzL m (tk ts n).fs with | [] => fzS m ts n | x :: _ => if (fzS m ts n).1 < 0 ∨ beT (tk ts n).fs x < (fzS m ts n).2 then ((n : Int), beT (tk ts n).fs x) else fzS m ts n) = _
  rw [h]; exact if_pos g
theorem fz_no {m : M5} {ts : List T1} {n : Nat} {x : Int} {xs : List Int} (h : tzL m (tk ts n).fs = x :: xs) (g : ¬ ((fzS m ts n).1 < 0 ∨ beT (tk ts n).fs x < (fzS m ts n).2)) : fzS m ts (n + 1) = fzS m ts n := by
  show (match tzL m (tk ts n).fs with | [] => fzS m ts n | x :: _ => if (fzS m ts n).1 < 0 ∨ beT (tk ts n).fs x < (fzS m ts n).2 then ((n : Int), beT (tk ts n).fs x) else fzS m ts n) = _
  rw [h]; exact if_neg g
def fzC (l k : L4) (ms : List M5) (ts : List T1) (n : Int) : Int :=
  if 16 < ts.length then 3 else if mfC l k ms (tsB ts) n = 0 then (if (fzS (mk ms n.toNat) ts ts.length).1 < 0 then 4 else 0) else mfC l k ms (tsB ts) n
def fzV (l k : L4) (ms : List M5) (ts : List T1) (n : Int) : Int := if fzC l k ms ts n = 0 then (fzS (mk ms n.toNat) ts ts.length).1 else 0
theorem fz_many {l k : L4} {ms : List M5} {ts : List T1} {n : Int} (h : 16 < ts.length) : fzC l k ms ts n = 3 ∧ fzV l k ms ts n = 0 := by
  have e : fzC l k ms ts n = 3 := if_pos h
  exact ⟨e, by unfold fzV; rw [if_neg (by rw [e]; decide)]⟩
theorem fz_bad {l k : L4} {ms : List M5} {ts : List T1} {n : Int} (h : ¬ 16 < ts.length) (g : mfC l k ms (tsB ts) n ≠ 0) : fzC l k ms ts n = mfC l k ms (tsB ts) n ∧ fzV l k ms ts n = 0 := by
  have e : fzC l k ms ts n = mfC l k ms (tsB ts) n := (if_neg h).trans (if_neg g)
  exact ⟨e, by unfold fzV; rw [if_neg (by rw [e]; exact g)]⟩
theorem fz_none {l k : L4} {ms : List M5} {ts : List T1} {i : Nat} (h : ¬ 16 < ts.length) (g : mfC l k ms (tsB ts) i = 0) (q : (fzS (mk ms i) ts ts.length).1 < 0) : fzC l k ms ts i = 4 ∧ fzV l k ms ts i = 0 := by
  have e : fzC l k ms ts i = 4 := (if_neg h).trans ((if_pos g).trans (if_pos (by simpa using q)))
  exact ⟨e, by unfold fzV; rw [if_neg (by rw [e]; decide)]⟩
theorem fz_one {l k : L4} {ms : List M5} {ts : List T1} {i : Nat} (h : ¬ 16 < ts.length) (g : mfC l k ms (tsB ts) i = 0) (q : ¬ (fzS (mk ms i) ts ts.length).1 < 0) : fzC l k ms ts i = 0 ∧ fzV l k ms ts i = (fzS (mk ms i) ts ts.length).1 := by
  have e : fzC l k ms ts i = 0 := (if_neg h).trans ((if_pos g).trans (if_neg (by simpa using q)))
  exact ⟨e, by unfold fzV; rw [if_pos e]; simp⟩
theorem tz_head {m : M5} {fs : List F3} {x : Int} {xs : List Int} (h : tzL m fs = x :: xs) : ∃ i : Nat, x = i ∧ i + 1 < fs.length := by
  have hx : x ∈ tzL m fs := by rw [h]; simp
  obtain ⟨i, rfl, hi, _⟩ := tgL_mem.1 hx
  exact ⟨i, rfl, by omega⟩
theorem tz_len {m : M5} {fs : List F3} {x : Int} {xs : List Int} (hv : trB fs = true) (h : tzL m fs = x :: xs) : xs.length ≤ 40 := by
  have h40 := (Trk.trB_yes hv).1.2
  have h2 := tgL_len m fs (fs.length - 1)
  have h3 : (tzL m fs).length ≤ fs.length - 1 := h2
  rw [h] at h3
  simp at h3
  omega
theorem tsB_yes {ts : List T1} (h : tsB ts = true) {j : Nat} (hj : j < ts.length) : trB (tk ts j).fs = true := List.all_eq_true.1 h j (by simpa using hj)
def RelFz (W : World) (m : M5) (ts : List T1) (f g i : Value) (wr : World) : Prop :=
  ∃ j : Nat, i = .int .i64 j ∧ j ≤ ts.length ∧ f = .int .i64 (fzS m ts j).1 ∧ g = .int .i64 (fzS m ts j).2 ∧ Ext W wr
set_option maxRecDepth 100000 in
set_option maxHeartbeats 16000000 in
theorem firstToZone_impl (l k : L4) (a : Option Addr) (cap : Nat) (ms : List M5) (n : Int) (at_ : Option Addr) (ct : Nat) (ts : List T1) (w : World) (hf : Mks w a ms) (ht : Tks w at_ ts) :
    Calls Tryz.prog 12 #[CV l k (.slice a ms.length cap), .int .i64 n, .slice at_ ts.length ct] w fun e w' => e = .returned (.tuple #[.int .i64 (fzV l k ms ts n), .int .i64 (fzC l k ms ts n)]) ∧ Ext w w' := by
  obtain ⟨W0, hW0⟩ : ∃ W0, W0 = w.alloc (.cells (cellsC l k (.slice a ms.length cap)).toArray 30) := ⟨_, rfl⟩
  have HW := Lib.hid (show Ext w W0 from hW0 ▸ (Ext.refl w).alloc _)
  have HF := Lib.hid (hf.ext HW.out)
  have HT := Lib.hid (ht.ext HW.out)
  have hm := ht.1
  unfold maxLen at hm
  clear hf ht
  by_cases h16 : 16 < ts.length
  · have H := Lib.hid (fz_many (l := l) (k := k) (ms := ms) (n := n) h16)
    have q1 : (16 : Int) < (ts.length : Int) := by omega
    have q2 : decide ((16 : Int) < (ts.length : Int)) = true := decide_eq_true q1
    go_enter Tryz.func12, Tryz.ntmps12
    go_wp2
    go_ret2
    exact ⟨ret_int2 H.out.2 H.out.1, (by repeat (first | exact Ext.refl _ | assumption | apply Ext.alloc | apply Ext.drew | (refine Ext.trans ?_ (by assumption)) | (refine Ext.setNew ?_ (by simp <;> omega) _)))⟩
  have q1 : ¬ (16 : Int) < (ts.length : Int) := by omega
  have q2 : decide ((16 : Int) < (ts.length : Int)) = false := decide_eq_false q1
  have KL := Lib.hid (markFor_any l k a cap ms n at_ ct ts W0 HF.out HT.out)
  by_cases g : mfC l k ms (tsB ts) n = 0
  rotate_left
  · have HY := Lib.hid (fz_bad h16 g)
    have g1 : (mfC l k ms (tsB ts) n != 0) = true := by simp [g]
    have g2 : (mfC l k ms (tsB ts) n == 0) = false := beq_eq_false_iff_ne.2 g
    obtain ⟨C, hC⟩ : ∃ C, C = mfC l k ms (tsB ts) n := ⟨_, rfl⟩
    have HC := Lib.hid hC
    rw [← hC] at KL g1 g2
    clear g hC
    go_enter Tryz.func12, Tryz.ntmps12
    go_wp2_with fail
    rw [← hW0]
    clear hW0
    refine KL.out.mono ?_
    rintro e w1 ⟨rfl, hx⟩
    go_wp2
    go_ret2
    exact ⟨ret_int2 HY.out.2 (HY.out.1.trans HC.out.symm), HW.out.trans (hx.alloc _)⟩
  obtain ⟨hq, hv, hn⟩ := mf_zero g
  obtain ⟨i, rfl⟩ : ∃ i : Nat, n = i := ⟨n.toNat, by omega⟩
  have hi : i < ms.length := by omega
  have HM := Lib.hid (cr_mk hq hi)
  have HV := Lib.hid hv
  have HN := Lib.hid (fun q => fz_none h16 g q)
  have HO := Lib.hid (fun q => fz_one h16 g q)
  rw [mf_mk g, g] at KL
  obtain ⟨m, hmm⟩ : ∃ m, m = mk ms i := ⟨_, rfl⟩
  rw [← hmm] at KL HN HO HM
  clear hmm g hq hv hn
  go_enter Tryz.func12, Tryz.ntmps12
  go_wp2_with fail
  rw [← hW0]
  clear hW0
  refine KL.out.mono ?_
  rintro e w1 ⟨rfl, hx⟩
  obtain ⟨W2, hW2⟩ : ∃ W2, W2 = w1.alloc (.cells #[.string m.n, .int .i64 m.x, .int .i64 m.y, .int .i64 m.s, .int .i64 m.z] 93) := ⟨_, rfl⟩
  have h2' : Ext w1 W2 := hW2 ▸ (Ext.refl w1).alloc _
  have BM := Lib.hid (show Box W2 w1.heap.size [.string m.n, .int .i64 m.x, .int .i64 m.y, .int .i64 m.s, .int .i64 m.z] from hW2 ▸ Box.new rfl)
  have X2 := Lib.hid (hx.trans h2')
  clear hx h2'
  go_wp2
  rw [← hW2]
  clear hW2
  go_loopw [10, 11, 31] (fun f g i wr => RelFz W2 m ts f g i wr) (fun f g i _ => ts.length - (intOf i).toNat)
  case atStart => exact ⟨0, rfl, Nat.zero_le _, rfl, rfl, Ext.refl _⟩
  case round =>
    obtain ⟨j, rfl, hj, rfl, rfl, hx⟩ := hrel
    have HX := Lib.hid hx
    clear hx
    have NI := Lib.hid (fun h => fz_nil (m := m) (ts := ts) (n := j) h)
    have YE := Lib.hid (fun x xs h g => fz_yes (m := m) (ts := ts) (n := j) (x := x) (xs := xs) h g)
    have NO := Lib.hid (fun x xs h g => fz_no (m := m) (ts := ts) (n := j) (x := x) (xs := xs) h g)
    by_cases hj1 : j < ts.length
    · obtain ⟨f0, hf0⟩ : ∃ f0, f0 = (fzS m ts j).1 := ⟨_, rfl⟩
      obtain ⟨g0, hg0⟩ : ∃ g0, g0 = (fzS m ts j).2 := ⟨_, rfl⟩
      have EF := Lib.hid (And.intro hf0 hg0)
      rw [← hf0, ← hg0] at YE NO
      simp only [← hf0, ← hg0]
      clear hf0 hg0
      obtain ⟨b, off, rfl, hb⟩ := HT.out.row (by omega)
      have HT1 := Lib.hid (HT.out.2.1 j hj1)
      have c0 := (X2.out.trans HX.out).cellOf (hb j hj1)
      have i0 : (0 : Int) ≤ (j : Int) := by omega
      have i1 : (j : Int) < (ts.length : Int) := by omega
      have T7 : IntKind.i64.wrap ((j : Int) + 1) = (j : Int) + 1 := IntWalk.i64_in _ (by omega)
      have m0 : ∀ A, (wr.alloc A).cell? ⟨w1.heap.size, 0, none⟩ = some (.string m.n) := fun A => ((Ext.refl wr).alloc A).cellOf (HX.out.cellOf (BM.out 0 _ rfl).1)
      have m1 : ∀ A, (wr.alloc A).cell? ⟨w1.heap.size, 1, none⟩ = some (.int .i64 m.x) := fun A => ((Ext.refl wr).alloc A).cellOf (HX.out.cellOf (BM.out 1 _ rfl).1)
      have m2 : ∀ A, (wr.alloc A).cell? ⟨w1.heap.size, 2, none⟩ = some (.int .i64 m.y) := fun A => ((Ext.refl wr).alloc A).cellOf (HX.out.cellOf (BM.out 2 _ rfl).1)
      have m3 : ∀ A, (wr.alloc A).cell? ⟨w1.heap.size, 3, none⟩ = some (.int .i64 m.s) := fun A => ((Ext.refl wr).alloc A).cellOf (HX.out.cellOf (BM.out 3 _ rfl).1)
      have m4 : ∀ A, (wr.alloc A).cell? ⟨w1.heap.size, 4, none⟩ = some (.int .i64 m.z) := fun A => ((Ext.refl wr).alloc A).cellOf (HX.out.cellOf (BM.out 4 _ rfl).1)
      have HVJ := Lib.hid (tsB_yes HV.out hj1)
      obtain ⟨T, hT⟩ : ∃ T, T = tk ts j := ⟨_, rfl⟩
      rw [← hT] at c0 HT1 NI YE NO HVJ
      clear hT hb
      have KT := Lib.hid (fun w' h => firstTouch_any m T.a T.c T.fs w' h HVJ.out HM.out)
      obtain ⟨W3, hW3⟩ : ∃ W3, W3 = wr.alloc (.cells #[.slice T.a T.fs.length T.c] 41) := ⟨_, rfl⟩
      have h3 : Ext wr W3 := hW3 ▸ (Ext.refl wr).alloc _
      have X3 := Lib.hid (X2.out.trans (HX.out.trans h3))
      go_wp2_with fail
      rw [← hW3]
      clear hW3 m0 m1 m2 m3 m4 c0
      refine (KT.out _ (HT1.out.ext X3.out)).mono ?_
      rintro e w4 ⟨rfl, hy⟩
      have XR := Lib.hid (HX.out.trans (h3.trans hy))
      clear h3 hy
      cases hz : tzL m T.fs with
      | nil =>
        have EQ := Lib.hid (NI.out hz)
        rw [(ft_nil hz).1, (ft_nil hz).2]
        clear hz
        go_wp2
        go_roundw
        case rel => exact ⟨j + 1, by go_num, by omega, by rw [EQ.out, EF.out.1], by rw [EQ.out, EF.out.2], XR.out⟩
        case measure => simp [intOf]; omega
      | cons x xs =>
        have YE2 := Lib.hid (fun g => YE.out x xs hz g)
        have NO2 := Lib.hid (fun g => NO.out x xs hz g)
        have hT : ftT m T.fs = beT T.fs x := (ft_cons hz).2
        rw [hT, (ft_cons hz).1]
        clear hT hz NI YE NO
        generalize beT T.fs x = q at *
        by_cases h1 : f0 < 0
        · have d1 : decide (f0 < 0) = true := decide_eq_true h1
          have EQ := Lib.hid (YE2.out (.inl h1))
          go_wp2
          go_roundw
          case rel => exact ⟨j + 1, by go_num, by omega, by rw [EQ.out], by rw [EQ.out], XR.out⟩
          case measure => simp [intOf]; omega
        · have d1 : decide (f0 < 0) = false := decide_eq_false h1
          by_cases h2 : q < g0
          · have d2 : decide (q < g0) = true := decide_eq_true h2
            have EQ := Lib.hid (YE2.out (.inr h2))
            go_wp2
            go_roundw
            case rel => exact ⟨j + 1, by go_num, by omega, by rw [EQ.out], by rw [EQ.out], XR.out⟩
            case measure => simp [intOf]; omega
          · have d2 : decide (q < g0) = false := decide_eq_false h2
            have EQ := Lib.hid (NO2.out (fun h => h.elim h1 h2))
            go_wp2
            go_roundw
            case rel => exact ⟨j + 1, by go_num, by omega, by rw [EQ.out, EF.out.1], by rw [EQ.out, EF.out.2], XR.out⟩
            case measure => simp [intOf]; omega
    · obtain rfl : j = ts.length := by omega
      by_cases h1 : (fzS m ts ts.length).1 < 0
      · have d1 : decide ((fzS m ts ts.length).1 < 0) = true := decide_eq_true h1
        have H := Lib.hid (HN.out (by omega))
        go_wp2
        go_ret2
        exact ⟨ret_int2 H.out.2 H.out.1, HW.out.trans (X2.out.trans HX.out)⟩
      · have d1 : decide ((fzS m ts ts.length).1 < 0) = false := decide_eq_false h1
        have H := Lib.hid (HO.out (by omega))
        go_wp2
        go_ret2
        exact ⟨ret_int2 H.out.2 H.out.1, HW.out.trans (X2.out.trans HX.out)⟩
set_option maxRecDepth 100000 in
set_option maxHeartbeats 16000000 in
theorem firstToZone_spec (l k : L4) (a : Option Addr) (cap : Nat) (ms : List M5) (n : Int) (at_ : Option Addr) (ct : Nat) (ts : List T1) (w : World) (hf : Mks w a ms) (ht : Tks w at_ ts) :
    Calls Tryz.prog 13 #[CV l k (.slice a ms.length cap), .int .i64 n, .slice at_ ts.length ct] w fun e w' => e = .returned (.tuple #[.int .i64 (fzV l k ms ts n), .int .i64 (fzC l k ms ts n)]) ∧ Ext w w' := by
  obtain ⟨W0, hW0⟩ : ∃ W0, W0 = w.alloc (.cells (cellsC l k (.slice a ms.length cap)).toArray 30) := ⟨_, rfl⟩
  have HW := Lib.hid (show Ext w W0 from hW0 ▸ (Ext.refl w).alloc _)
  have BB := Lib.hid (show Box W0 w.heap.size (cellsC l k (.slice a ms.length cap)) from hW0 ▸ Box.new rfl)
  have HF := Lib.hid (hf.ext HW.out)
  have HT := Lib.hid (ht.ext HW.out)
  have hm := ht.1
  unfold maxLen at hm
  have hmm := hf.1.1
  unfold maxLen at hmm
  clear hf ht
  by_cases h16 : 16 < ts.length
  · have H := Lib.hid (fz_many (l := l) (k := k) (ms := ms) (n := n) h16)
    have q1 : (16 : Int) < (ts.length : Int) := by omega
    have q2 : decide ((16 : Int) < (ts.length : Int)) = true := decide_eq_true q1
    go_enter Tryz.func13, Tryz.ntmps13
    go_wp2
    go_ret2
    exact ⟨ret_int2 H.out.2 H.out.1, (by repeat (first | exact Ext.refl _ | assumption | apply Ext.alloc | apply Ext.drew | (refine Ext.trans ?_ (by assumption)) | (refine Ext.setNew ?_ (by simp <;> omega) _)))⟩
  have q1 : ¬ (16 : Int) < (ts.length : Int) := by omega
  have q2 : decide ((16 : Int) < (ts.length : Int)) = false := decide_eq_false q1
  cases hq : crB l k ms
  · have g1 := mf_bad (l := l) (k := k) (ms := ms) (ok := tsB ts) (n := n) (.inl hq)
    have HY := Lib.hid (fz_bad (l := l) (k := k) (ms := ms) (n := n) h16 (by rw [g1]; decide))
    have HC := Lib.hid g1
    clear g1
    go_enter Tryz.func13, Tryz.ntmps13
    go_wp2_with fail
    rw [← hW0]
    clear hW0
    refine (isCourse_spec _ _ _ _ _ _ HF.out).mono ?_
    rw [hq]
    rintro e w1 ⟨rfl, hx⟩
    go_wp2
    go_ret2
    exact ⟨ret_int2 HY.out.2 (HY.out.1.trans HC.out), HW.out.trans hx⟩
  have h1 : 1 ≤ ms.length := by
    unfold crB at hq; simp only [Bool.and_eq_true, decide_eq_true_eq] at hq; exact hq.1
  have T1 : IntKind.i64.wrap ((ms.length : Int) - 1) = (ms.length : Int) - 1 := IntWalk.i64_in _ (by omega)
  have HQ := Lib.hid hq
  go_enter Tryz.func13, Tryz.ntmps13
  go_wp2_with fail
  rw [← hW0]
  clear hW0
  refine (isCourse_spec _ _ _ _ _ _ HF.out).mono ?_
  rw [hq]
  rintro e w1 ⟨rfl, hx⟩
  have X1 := Lib.hid hx
  clear hx hq
  go_wp2
  go_loopw [8] (fun i wr => RelXB w1 (tkB ts) ts.length i wr) (fun i _ => ts.length - (intOf i).toNat)
  case atStart => exact ⟨0, rfl, Nat.zero_le _, fun j hj => absurd hj (by omega), Ext.refl _⟩
  case round =>
    obtain ⟨j, rfl, hj, hd, hx⟩ := hrel
    have HD := Lib.hid hd
    have HX := Lib.hid hx
    clear hd hx
    by_cases hj1 : j < ts.length
    · obtain ⟨b, off, rfl, hb⟩ := HT.out.row (by omega)
      have c0 := (X1.out.trans HX.out).cellOf (hb j hj1)
      have i0 : (0 : Int) ≤ (j : Int) := by omega
      have i1 : (j : Int) < (ts.length : Int) := by omega
      have T7 : IntKind.i64.wrap ((j : Int) + 1) = (j : Int) + 1 := IntWalk.i64_in _ (by omega)
      have hc := Lib.hid (Trk.isTrack_spec (tk ts j).a (tk ts j).c (tk ts j).fs wr ((HT.out.2.1 j hj1).ext (X1.out.trans HX.out)))
      clear hb
      cases h : tkB ts j
      · have g1 := mf_bad (l := l) (k := k) (ms := ms) (ok := tsB ts) (n := n) (.inr (tsB_no hj1 h))
        have HY := Lib.hid (fz_bad (l := l) (k := k) (ms := ms) (n := n) h16 (by rw [g1]; decide))
        have HC := Lib.hid g1
        rw [show trB (tk ts j).fs = false from h] at hc
        clear g1 h
        go_wp2_with fail
        refine hc.out.mono ?_
        rintro e w2 ⟨rfl, hy⟩
        go_wp2
        go_ret2
        exact ⟨ret_int2 HY.out.2 (HY.out.1.trans HC.out), HW.out.trans (X1.out.trans (HX.out.trans hy))⟩
      · have H := Lib.hid h
        rw [show trB (tk ts j).fs = true from h] at hc
        clear h
        go_wp2_with fail
        refine hc.out.mono ?_
        rintro e w2 ⟨rfl, hy⟩
        have HY := Lib.hid (HX.out.trans hy)
        clear hy
        go_wp2
        go_roundw
        case rel => exact ⟨j + 1, by go_num, by omega, fun x hx => by rcases Nat.lt_or_ge x j with g | g; exact HD.out x g; exact (show x = j by omega) ▸ H.out, HY.out⟩
        case measure => simp [intOf]; omega
    · obtain rfl : j = ts.length := by omega
      have HV := Lib.hid (tsB_all HD.out)
      have X2 := Lib.hid (X1.out.trans HX.out)
      obtain ⟨⟨p0, p1, p2, p3, p4, p5, p6, p7, p8⟩, _⟩ := Box.nine (BB.out.ext X2.out)
      by_cases h0 : 0 ≤ n ∧ n < ms.length
      rotate_left
      · have g1 := mf_out (ok := tsB ts) (n := n) HQ.out HV.out h0
        have HY := Lib.hid (fz_bad (l := l) (k := k) (ms := ms) (n := n) h16 (by rw [g1]; decide))
        have HC := Lib.hid g1
        have hin := inB_no (n := n) (lo := 0) (hi := (ms.length : Int) - 1) (by omega)
        clear g1
        go_wp2_with fail
        refine (in_any _ _ _ _).mono ?_
        rw [hin]
        rintro e w2 ⟨rfl, rfl⟩
        go_wp2
        go_ret2
        exact ⟨ret_int2 HY.out.2 (HY.out.1.trans HC.out), HW.out.trans X2.out⟩
      have g := mf_yes (ok := tsB ts) (n := n) HQ.out HV.out h0
      have hin := inB_yes (n := n) (lo := 0) (hi := (ms.length : Int) - 1) h0.1 (by omega)
      obtain ⟨i, rfl⟩ : ∃ i : Nat, n = i := ⟨n.toNat, by omega⟩
      have hi : i < ms.length := by omega
      have HM := Lib.hid (cr_mk HQ.out hi)
      have HN := Lib.hid (fun q => fz_none h16 g q)
      have HO := Lib.hid (fun q => fz_one h16 g q)
      obtain ⟨bm, om, rfl, hbm⟩ := HF.out.row (by omega)
      obtain ⟨k0, k1, k2, k3, k4⟩ := (hbm i hi).ext X2.out
      obtain ⟨m, hmk⟩ : ∃ m, m = mk ms i := ⟨_, rfl⟩
      rw [← hmk] at HN HO HM k0 k1 k2 k3 k4
      have r0 : (0 : Int) ≤ (i : Int) := by omega
      have r1 : (i : Int) < (ms.length : Int) := by omega
      clear hmk g h0 hbm
      have W8 := Lib.hid (fun w' (h : Ext wr w') => h.cellOf p8)
      have WK := Lib.hid (fun w' (h : Ext wr w') => show At w' bm (om + i * 5) m from At.ext ⟨k0, k1, k2, k3, k4⟩ h)
      go_wp2_with fail
      refine (in_any _ _ _ _).mono ?_
      rw [hin]
      rintro e w2 ⟨rfl, rfl⟩
      clear p0 p1 p2 p3 p4 p5 p6 p7 p8 k0 k1 k2 k3 k4
      obtain ⟨W3, hW3⟩ : ∃ W3, W3 = wr := ⟨_, rfl⟩
      rw [← hW3] at W8 WK X2 ⊢
      clear hW3 HX
      go_wp2
      go_loopw [9, 10, 11] (fun f g i wr => RelFz W3 m ts f g i wr) (fun f g i _ => ts.length - (intOf i).toNat)
      case atStart => exact ⟨0, rfl, Nat.zero_le _, rfl, rfl, Ext.refl _⟩
      case round =>
        obtain ⟨j, rfl, hj, rfl, rfl, hx⟩ := hrel
        have HX := Lib.hid hx
        clear hx
        have NI := Lib.hid (fun h => fz_nil (m := m) (ts := ts) (n := j) h)
        have YE := Lib.hid (fun x xs h g => fz_yes (m := m) (ts := ts) (n := j) (x := x) (xs := xs) h g)
        have NO := Lib.hid (fun x xs h g => fz_no (m := m) (ts := ts) (n := j) (x := x) (xs := xs) h g)
        by_cases hj1 : j < ts.length
        · obtain ⟨f0, hf0⟩ : ∃ f0, f0 = (fzS m ts j).1 := ⟨_, rfl⟩
          obtain ⟨g0, hg0⟩ : ∃ g0, g0 = (fzS m ts j).2 := ⟨_, rfl⟩
          have EF := Lib.hid (And.intro hf0 hg0)
          rw [← hf0, ← hg0] at YE NO
          simp only [← hf0, ← hg0]
          clear hf0 hg0
          obtain ⟨b, off, rfl, hb⟩ := HT.out.row (by omega)
          have HT1 := Lib.hid (HT.out.2.1 j hj1)
          have c0 := (X2.out.trans HX.out).cellOf (hb j hj1)
          have i0 : (0 : Int) ≤ (j : Int) := by omega
          have i1 : (j : Int) < (ts.length : Int) := by omega
          have T7 : IntKind.i64.wrap ((j : Int) + 1) = (j : Int) + 1 := IntWalk.i64_in _ (by omega)
          have HVJ := Lib.hid (tsB_yes HV.out hj1)
          obtain ⟨T, hT⟩ : ∃ T, T = tk ts j := ⟨_, rfl⟩
          rw [← hT] at c0 HT1 NI YE NO HVJ
          clear hT hb
          have KT := Lib.hid (fun w' h => legs_spec m T.a T.c T.fs w' h HVJ.out HM.out)
          have X3 := Lib.hid (X2.out.trans HX.out)
          have f8 : ∀ w', Ext wr w' → w'.cell? ⟨w.heap.size, 8, none⟩ = some (.slice (some ⟨bm, om, none⟩) ms.length cap) := fun w' h => W8.out w' (HX.out.trans h)
          have g00 : ∀ w', Ext wr w' → w'.cell? ⟨bm, om + i * 5, none⟩ = some (.string m.n) := fun w' h => (WK.out w' (HX.out.trans h)).1
          have g01 : ∀ w', Ext wr w' → w'.cell? ⟨bm, om + i * 5 + 1, none⟩ = some (.int .i64 m.x) := fun w' h => (WK.out w' (HX.out.trans h)).2.1
          have g02 : ∀ w', Ext wr w' → w'.cell? ⟨bm, om + i * 5 + 2, none⟩ = some (.int .i64 m.y) := fun w' h => (WK.out w' (HX.out.trans h)).2.2.1
          have g03 : ∀ w', Ext wr w' → w'.cell? ⟨bm, om + i * 5 + 3, none⟩ = some (.int .i64 m.s) := fun w' h => (WK.out w' (HX.out.trans h)).2.2.2.1
          have g04 : ∀ w', Ext wr w' → w'.cell? ⟨bm, om + i * 5 + 4, none⟩ = some (.int .i64 m.z) := fun w' h => (WK.out w' (HX.out.trans h)).2.2.2.2
          have d0 : ∀ w', Ext wr w' → w'.cell? ⟨b, off + j, none⟩ = some (.slice T.a T.fs.length T.c) := fun w' h => h.cellOf c0
          have hrr := Ext.refl wr
          go_upto_region 16 with fail
          clear c0
          refine wp_region_held_drew (S := (fun w' => Ext wr w')) (by kernel_rfl) (by (try dsimp only); first | go_keep | exact (Ext.refl _).drew | exact Res.new2.drew | exact Res.new4.drew | exact ResB.drew (by assumption) | exact ResC.drew (by assumption) | assumption | exact Ext.drew (by assumption) | exact Res.drew (by assumption)) (fun hHeld => ?_)
          refine Ord.K 0 45 ?_
          refine Ord.K 1 46 ?_
          refine Ord.K 2 47 ?_
          refine Ord.K 3 48 ?_
          refine Ord.K 4 49 ?_
          refine Ord.K 5 50 ?_
          refine Ord.K 6 51 ?_
          refine Ord.K 7 52 ?_
          refine Ord.K 8 53 ?_
          (refine wpAnyH_ready (rs := [9]) (by kernel_rfl) (by simp) ?_; refine AllReadyH.cons rfl (fun K hK => ?_) AllReadyH.nil; go_simp; ((go_at_call 47; refine (KT.out _ (HT1.out.ext (X3.out.trans (by first | assumption | exact (Ext.refl _).drew)))).mono ?_; rintro e w4 ⟨v, rfl, hO, hy⟩)); go_wp2_with fail; (refine hK.out _ _ (by first | assumption | exact Ext.trans (by assumption) hy | exact Res.ext (by assumption) hy | exact ResB.ext (by assumption) hy | exact ResC.ext (by assumption) hy | (go_split_ands; (repeat' apply And.intro) <;> exact Ext.cellOf hy (by assumption))) (fun hHeld => ?_)); clear hK K; (try simp only [Act.put, Ord.a, Ord.b, Ord.c]))
          refine Ord.K 10 12 ?_
          refine wpAnyH_done (by kernel_rfl) ?_ _
          have XR := Lib.hid (HX.out.trans hHeld)
          have X4 := Lib.hid (X3.out.trans hHeld)
          have ct := d0 _ hHeld
          clear f8 g00 g01 g02 g03 g04 d0 hHeld hy hrr
          cases hz : tzL m T.fs with
          | nil =>
            have EQ := Lib.hid (NI.out hz)
            rw [hz] at hO
            obtain ⟨az, cz, rfl, -⟩ := hO.zxs (by simp [maxLen])
            go_wp2
            go_roundw
            case rel => exact ⟨j + 1, by go_num, by omega, by rw [EQ.out, EF.out.1], by rw [EQ.out, EF.out.2], XR.out⟩
            case measure => simp [intOf]; omega
          | cons x xs =>
            obtain ⟨r, rfl, hr⟩ := tz_head hz
            have hxs := tz_len HVJ.out hz
            rw [hz] at hO
            obtain ⟨az, cz, rfl, hZ⟩ := hO.zxs (by simp only [List.length_cons, maxLen]; omega)
            obtain ⟨bz, oz, rfl, hzc⟩ := hZ.row (by simp)
            have z0 := hzc 0 (by simp)
            have z1 : w4.cell? ⟨bz, oz, none⟩ = some (.int .i64 r) := z0
            obtain ⟨bt, ot, hbt, hA⟩ := (HT1.out.ext X4.out).2.resolve_left (fun e => by rw [e] at hr; simp at hr)
            have t0 := (hA r (by omega)).1
            have TL := Lib.hid (Trk.trB_yes HVJ.out).1
            have YE2 := Lib.hid (fun g => YE.out r xs hz g)
            have NO2 := Lib.hid (fun g => NO.out r xs hz g)
            have EB : beT T.fs (r : Int) = (fx T.fs r).t := by unfold beT; simp
            rw [EB] at YE2 NO2
            rw [hbt] at ct
            obtain ⟨q, hq⟩ : ∃ q, q = (fx T.fs r).t := ⟨_, rfl⟩
            rw [← hq] at t0 YE2 NO2
            clear hq EB hz hO hZ hzc z0 hA NI YE NO hbt
            have u0 : ((xs.length : Int) + 1 == 0) = false := beq_eq_false_iff_ne.2 (by omega)
            have u1 : (((xs.length + 1 : Nat) : Int) == 0) = false := beq_eq_false_iff_ne.2 (by omega)
            have u2 : (0 : Int) < (xs.length : Int) + 1 := by omega
            have u3 : (0 : Int) ≤ (r : Int) := by omega
            have u4 : (r : Int) < (T.fs.length : Int) := by omega
            have k0 : ∀ w', Ext w4 w' → w'.cell? ⟨b, off + j, none⟩ = some (.slice (some ⟨bt, ot, none⟩) T.fs.length T.c) := fun w' h => h.cellOf ct
            have k1 : ∀ w', Ext w4 w' → w'.cell? ⟨bz, oz, none⟩ = some (.int .i64 r) := fun w' h => h.cellOf z1
            have k2 : ∀ w', Ext w4 w' → w'.cell? ⟨bt, ot + r * 3, none⟩ = some (.int .i64 q) := fun w' h => h.cellOf t0
            have hr4 := Ext.refl w4
            go_upto_region 18 with fail
            clear ct z1 t0
            refine wp_region_held_drew (S := (fun w' => Ext w4 w')) (by kernel_rfl) (by (try dsimp only); first | go_keep | exact (Ext.refl _).drew | exact Res.new2.drew | exact Res.new4.drew | exact ResB.drew (by assumption) | exact ResC.drew (by assumption) | assumption | exact Ext.drew (by assumption) | exact Res.drew (by assumption)) (fun hHeld => ?_)
            refine Ord.K 0 58 ?_
            refine Ord.K 1 59 ?_
            refine Ord.K 2 60 ?_
            refine Ord.K 3 61 ?_
            refine Ord.K 4 62 ?_
            refine Ord.K 5 63 ?_
            refine Ord.K 6 64 ?_
            refine Ord.K 7 65 ?_
            refine Ord.K 8 66 ?_
            refine Ord.K 9 67 ?_
            refine Ord.K 10 68 ?_
            refine Ord.K 11 13 ?_
            refine wpAnyH_done (by kernel_rfl) ?_ _
            have X5 := Lib.hid (XR.out.trans hHeld)
            clear k0 k1 k2 hHeld
            by_cases h1 : f0 < 0
            · have d1 : decide (f0 < 0) = true := decide_eq_true h1
              have EQ := Lib.hid (YE2.out (.inl h1))
              go_wp2
              go_roundw
              case rel => exact ⟨j + 1, by go_num, by omega, by rw [EQ.out], by rw [EQ.out], X5.out⟩
              case measure => simp [intOf]; omega
            · have d1 : decide (f0 < 0) = false := decide_eq_false h1
              by_cases h2 : q < g0
              · have d2 : decide (q < g0) = true := decide_eq_true h2
                have EQ := Lib.hid (YE2.out (.inr h2))
                go_wp2
                go_roundw
                case rel => exact ⟨j + 1, by go_num, by omega, by rw [EQ.out], by rw [EQ.out], X5.out⟩
                case measure => simp [intOf]; omega
              · have d2 : decide (q < g0) = false := decide_eq_false h2
                have EQ := Lib.hid (NO2.out (fun h => h.elim h1 h2))
                go_wp2
                go_roundw
                case rel => exact ⟨j + 1, by go_num, by omega, by rw [EQ.out, EF.out.1], by rw [EQ.out, EF.out.2], X5.out⟩
                case measure => simp [intOf]; omega
        · obtain rfl : j = ts.length := by omega
          by_cases h1 : (fzS m ts ts.length).1 < 0
          · have d1 : decide ((fzS m ts ts.length).1 < 0) = true := decide_eq_true h1
            have H := Lib.hid (HN.out (by omega))
            go_wp2
            go_ret2
            exact ⟨ret_int2 H.out.2 H.out.1, HW.out.trans (X2.out.trans HX.out)⟩
          · have d1 : decide ((fzS m ts ts.length).1 < 0) = false := decide_eq_false h1
            have H := Lib.hid (HO.out (by omega))
            go_wp2
            go_ret2
            exact ⟨ret_int2 H.out.2 H.out.1, HW.out.trans (X2.out.trans HX.out)⟩
end Go.Proofs.YtcangdcakgcpaaaGreat.Crs
