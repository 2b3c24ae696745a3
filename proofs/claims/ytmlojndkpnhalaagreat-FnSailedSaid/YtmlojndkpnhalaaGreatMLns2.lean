import Derived.Test.YtmlojndkpnhalaaGreatMRdl
import Derived.Test.YtmlojndkpnhalaaGreatTkr
import Derived.Lib.AppendZeros
import Derived.Lib.Walk
import Derived.Lib.SliceRun
namespace Go.Proofs.YtmlojndkpnhalaaGreat.Crs
open Go.ChangeShapes Go.WideShapes Go.ChangeAt Go.RowKit Go.PlainAid
open Go.Proofs.YtmlojndkpnhalaaGreat.Num Go.Proofs.YtmlojndkpnhalaaGreat.Kit Go.Proofs.YtmlojndkpnhalaaGreat.Pts Go.Proofs.YtmlojndkpnhalaaGreat.Seg Go.Proofs.YtmlojndkpnhalaaGreat.Div Go.Proofs.YtmlojndkpnhalaaGreat.Root Go.Proofs.YtmlojndkpnhalaaGreat.Rt
set_option linter.unusedVariables false
set_option linter.unusedSimpArgs false
def ixB (p : Nat → Bool) (n : Nat) : Int := match (List.range n).find? (fun i => !p i) with | some k => (k : Int) | none => -1
theorem ixB_all {p : Nat → Bool} {n : Nat} (h : ∀ i, i < n → p i = true) : ixB p n = -1 := by
  have e : (List.range n).find? (fun i => !p i) = none := by
    rw [List.find?_eq_none]; intro j hj; simp [h j (by simpa using hj)]
  unfold ixB; rw [e]
theorem ixB_at {p : Nat → Bool} {n k : Nat} (hk : k < n) (h : p k = false) (hd : ∀ j, j < k → p j = true) : ixB p n = k := by
  have e : (List.range n).find? (fun i => !p i) = some k := by
    rw [List.find?_range_eq_some]
    exact ⟨by simp [h], by simpa using hk, fun j hj => by simp [hd j hj]⟩
  unfold ixB; rw [e]
theorem ixB_nn {p : Nat → Bool} {n : Nat} (h : (List.range n).all p = false) : ∃ k : Nat, ixB p n = k ∧ k < n := by
  unfold ixB
  cases e : (List.range n).find? (fun i => !p i) with
  | none =>
    rw [List.find?_eq_none] at e
    have : (List.range n).all p = true := List.all_eq_true.2 fun i hi => by have := e i hi; simpa using this
    rw [this] at h; cases h
  | some k =>
    have := List.mem_of_find?_eq_some e
    exact ⟨k, rfl, by simpa using this⟩
theorem ixB_neg {p : Nat → Bool} {n : Nat} (h : (List.range n).all p = true) : ixB p n = -1 := ixB_all fun i hi => List.all_eq_true.1 h i (by simpa using hi)
def lnB (ls : List L4) (i : Nat) : Bool := sgB (ln ls i).a (ln ls i).b (ln ls i).c (ln ls i).d
theorem badLine_any (p : L4) (w : World) : Calls Tryz.prog 121 #[LV p] w fun e w' => e = .returned (.bool (!(sgB p.a p.b p.c p.d))) ∧ Ext w w' := by
  go_enter Tryz.func121, Tryz.ntmps121
  go_wp2_with fail
  refine (lineValid_any _ _ _ _ _).mono ?_
  rintro e w1 ⟨rfl, hx⟩
  go_wp2
  go_ret
  exact ⟨rfl, (by repeat (first | exact Ext.refl _ | assumption | apply Ext.alloc | apply Ext.drew | (refine Ext.trans ?_ (by assumption)) | (refine Ext.setNew ?_ (by simp <;> omega) _)))⟩
set_option maxHeartbeats 1000000 in
theorem indexLine_any (a : Option Addr) (cap : Nat) (ls : List L4) (w : World) (hf : Lxs w a ls) :
    Calls Tryz.prog 195 #[.slice a ls.length cap, .func (.func 121) #[] #[]] w fun e w' => e = .returned (.int .i64 (ixB (lnB ls) ls.length)) ∧ Ext w w' := by
  have hm := hf.1
  have HF := Lib.hid hf
  clear hf
  go_enter Tryz.func195, Tryz.ntmps195
  go_wp2
  go_loopw [8] (fun i wr => RelXB w (lnB ls) ls.length i wr) (fun i _ => ls.length - (intOf i).toNat)
  case atStart => exact ⟨0, rfl, Nat.zero_le _, fun j hj => absurd hj (by omega), Ext.refl _⟩
  case round =>
    obtain ⟨j, rfl, hj, hd, hx⟩ := hrel
    have HD := Lib.hid hd
    have HX := Lib.hid hx
    clear hd hx
    by_cases hj1 : j < ls.length
    · obtain ⟨b, off, rfl, hb⟩ := HF.out.row (by omega)
      obtain ⟨c0, c1, c2, c3⟩ := (hb j hj1).ext HX.out
      have i0 : (0 : Int) ≤ (j : Int) := by omega
      have i1 : (j : Int) < (ls.length : Int) := by omega
      have T7 : IntKind.i64.wrap ((j : Int) + 1) = (j : Int) + 1 := IntWalk.i64_in _ (by omega)
      have hc := badLine_any (ln ls j) wr
      clear hb
      cases h : lnB ls j
      · have H := Lib.hid (ixB_at hj1 h HD.out)
        rw [show sgB (ln ls j).a (ln ls j).b (ln ls j).c (ln ls j).d = false from h] at hc
        clear h
        go_wp2_with (go_at_call 121; refine hc.mono ?_; rintro e w1 ⟨rfl, hy⟩)
        go_ret
        exact ⟨ret_int H.out, HX.out.trans hy⟩
      · have H := Lib.hid h
        rw [show sgB (ln ls j).a (ln ls j).b (ln ls j).c (ln ls j).d = true from h] at hc
        clear h
        go_wp2_with (go_at_call 121; refine hc.mono ?_; rintro e w1 ⟨rfl, hy⟩)
        have HY := Lib.hid (HX.out.trans hy)
        clear hy
        go_roundw
        case rel => exact ⟨j + 1, by go_num, by omega, fun x hx => by rcases Nat.lt_or_ge x j with g | g; exact HD.out x g; exact (show x = j by omega) ▸ H.out, HY.out⟩
        case measure => simp [intOf]; omega
    · obtain rfl : j = ls.length := by omega
      have H := Lib.hid (ixB_all HD.out)
      go_wp2
      go_ret
      exact ⟨ret_int H.out, HX.out⟩
theorem containsLine_any (a : Option Addr) (cap : Nat) (ls : List L4) (w : World) (hf : Lxs w a ls) :
    Calls Tryz.prog 120 #[.slice a ls.length cap, .func (.func 121) #[] #[]] w fun e w' => e = .returned (.bool (!((List.range ls.length).all (lnB ls)))) ∧ Ext w w' := by
  have KI := Lib.hid (indexLine_any a cap ls w hf)
  clear hf
  cases h : (List.range ls.length).all (lnB ls)
  · obtain ⟨k, hk, hk2⟩ := ixB_nn h
    rw [hk] at KI
    go_enter Tryz.func120, Tryz.ntmps120
    go_wp2_with fail
    refine KI.out.mono ?_
    rintro e w1 ⟨rfl, hx⟩
    have q : decide ((k : Int) ≥ 0) = true := decide_eq_true (by omega)
    have q2 : (0 : Int) ≤ (k : Int) := by omega
    go_wp2
    go_ret
    exact ⟨rfl, hx⟩
  · rw [ixB_neg h] at KI
    go_enter Tryz.func120, Tryz.ntmps120
    go_wp2_with fail
    refine KI.out.mono ?_
    rintro e w1 ⟨rfl, hx⟩
    go_wp2
    go_ret
    exact ⟨rfl, hx⟩
set_option maxRecDepth 100000 in
set_option maxHeartbeats 2000000 in
theorem growL_any (n : Nat) (w : World) (h1 : 1 ≤ n) (h2 : n ≤ 1000) :
    Calls Tryz.prog 197 #[.slice none 0 0, .int .i64 n] w fun e w' => ∃ v, e = .returned v ∧ w'.ownsRow w.heap.size 27 4 v 0 [] ∧ Ext w w' := by
  obtain ⟨i0, hin, hz0, hz1, hz2⟩ := info_parts lineInfo
  have hrz : ∀ ty, (Builtin.append_ #[118, 3] ty #[.slice none 0 0, .int .i64 n]).run Tryz.prog w = _ := fun ty =>
    Lib.run_append_nil_zeros w 118 3 ty 27 i0 (Sg 0 0 0 0) .i64 .i64 Tryz.underlying118 Tryz.underlying3 hin hz0 n (by omega) (by rw [hz1]; omega) (by omega) (by rw [hz2]; omega)
  have hG : n ≤ grownCap w n 0 27 := grownCap_ge w _ _ _
  have hG2 := grownCap_le_maxLen w n 0 27 (by unfold maxLen; omega)
  obtain ⟨G, hGe⟩ : ∃ G, G = grownCap w n 0 27 := ⟨_, rfl⟩
  rw [← hGe] at hrz hG hG2
  clear hGe
  have O := Lib.hid (World.ownsRow_made (base := w.heap.size) (e := 27) (size := 4) w.drew (Builtin.zeroCells (Sg 0 0 0 0).cells n ++ Builtin.zeroCells (Sg 0 0 0 0).cells (G - n)) G (Nat.le_refl _) hG2 (by simp only [Array.size_append, size_zeroCells]; show n * 4 + (G - n) * 4 = G * 4; omega))
  have X := Lib.hid ((Ext.refl w).drew.alloc (.cells (Builtin.zeroCells (Sg 0 0 0 0).cells n ++ Builtin.zeroCells (Sg 0 0 0 0).cells (G - n)) 27))
  have n0 : ¬ ((n : Int) < 0) := by omega
  have n1 : (n : Int) > 0 := by omega
  have n2 : (0 : Int) < (n : Int) := by omega
  have T1 : IntKind.i64.wrap (n : Int) = (n : Int) := IntWalk.i64_in _ (by omega)
  unfold maxLen at hG2
  go_enter Tryz.func197, Tryz.ntmps197
  go_wp2_with (at_builtin; refine Lib.wpList_append_run _ rfl _ _ _ _ rfl _ _ rfl rfl _ _ (hrz _) ?_)
  go_ret
  exact ⟨_, rfl, O.out, X.out⟩
end Go.Proofs.YtmlojndkpnhalaaGreat.Crs
namespace Go.Proofs.YtmlojndkpnhalaaGreat.Crs
open Go.ChangeShapes Go.WideShapes Go.ChangeAt Go.RowKit Go.PlainAid
open Go.Proofs.YtmlojndkpnhalaaGreat.Num Go.Proofs.YtmlojndkpnhalaaGreat.Kit Go.Proofs.YtmlojndkpnhalaaGreat.Pts Go.Proofs.YtmlojndkpnhalaaGreat.Seg Go.Proofs.YtmlojndkpnhalaaGreat.Div Go.Proofs.YtmlojndkpnhalaaGreat.Root Go.Proofs.YtmlojndkpnhalaaGreat.Rt
set_option linter.unusedVariables false
set_option linter.unusedSimpArgs false
structure Rows3 (w : World) (D : Nat) (g c : Nat → Nat) (ls : Nat → List L4) : Prop where
  row : ∀ i, i < 3 → w.cell? ⟨D, i, none⟩ = some (.slice (some ⟨g i, 0, none⟩) (ls i).length (c i))
  cel : ∀ i, i < 3 → ∀ j u, (cellsLs (ls i))[j]? = some u → w.cell? ⟨g i, j, none⟩ = some u
  pos : ∀ i, i < 3 → 1 ≤ (ls i).length
  le : (ls 0).length + (ls 1).length + (ls 2).length ≤ 1000
theorem Rows3.ext {w w' : World} {D : Nat} {g c : Nat → Nat} {ls : Nat → List L4} (h : Rows3 w D g c ls) (k : Ext w w') : Rows3 w' D g c ls :=
  ⟨fun i hi => k.cellOf (h.row i hi), fun i hi j u hu => k.cellOf (h.cel i hi j u hu), h.pos, h.le⟩
def upto (ls : Nat → List L4) : Nat → List L4
  | 0 => []
  | n + 1 => upto ls n ++ ls n
theorem upto_app (ls : Nat → List L4) (n : Nat) : upto ls (n + 1) = upto ls n ++ ls n := rfl
theorem upto_le {w : World} {D : Nat} {g c : Nat → Nat} {ls : Nat → List L4} (h : Rows3 w D g c ls) : ∀ n, n ≤ 3 → (upto ls n).length ≤ 1000 := by
  intro n hn
  have := h.le
  match n, hn with
  | 0, _ => simp [upto]
  | 1, _ => simp [upto]; omega
  | 2, _ => simp [upto]; omega
  | 3, _ => simp [upto]; omega
theorem upto_succ (ls : Nat → List L4) (n : Nat) : (upto ls (n + 1)).length = (upto ls n).length + (ls n).length := by simp [upto]
theorem upto_mono {w : World} {D : Nat} {g c : Nat → Nat} {ls : Nat → List L4} (h : Rows3 w D g c ls) (n : Nat) (hn : n < 3) : (upto ls n).length + (ls n).length ≤ 1000 := by
  rw [← upto_succ]; exact upto_le h _ (by omega)
def RelCa (w : World) (ls : Nat → List L4) (s i : Value) (wr : World) : Prop := ∃ j : Nat, i = .int .i64 j ∧ s = .int .i64 ((upto ls j).length : Nat) ∧ j ≤ 3 ∧ w = wr
def RelCb (wx : World) (b : Nat) (ls : Nat → List L4) (o i : Value) (wr : World) : Prop :=
  ∃ j : Nat, i = .int .i64 j ∧ j ≤ 3 ∧ wr.ownsRow b 27 4 o (upto ls j).length (cellsLs (upto ls j)) ∧ Ext wx wr
theorem ones_cells {ls : List L4} : ∀ u ∈ cellsLs ls, u.oneCell' = true := by
  intro u hu
  unfold cellsLs at hu
  rw [List.mem_flatMap] at hu
  obtain ⟨l, _, h⟩ := hu
  simp at h
  rcases h with rfl | rfl | rfl | rfl <;> rfl
set_option maxRecDepth 100000 in
set_option maxHeartbeats 4000000 in
theorem concat3_any (D c0 : Nat) (g c : Nat → Nat) (ls : Nat → List L4) (w : World) (hr : Rows3 w D g c ls) :
    Calls Tryz.prog 123 #[.slice (some ⟨D, 0, none⟩) 3 c0] w fun e w' => ∃ v, e = .returned v ∧ OwnL w' w.heap.size v (upto ls 3) ∧ Ext w w' := by
  have HR := Lib.hid hr
  have HU := Lib.hid (fun n hn => upto_le hr n hn)
  have HM := Lib.hid (fun n hn => upto_mono hr n hn)
  have h1 : 1 ≤ (upto ls 3).length := by have := hr.pos 0 (by omega); simp [upto]; omega
  have h2 := upto_le hr 3 (by omega)
  have KG := Lib.hid (fun w => growL_any (upto ls 3).length w h1 h2)
  clear hr
  obtain ⟨i0, hin, hz0, hz1, hz2⟩ := info_parts lineInfo
  go_enter Tryz.func123, Tryz.ntmps123
  go_wp2
  go_loopw [3, 11] (fun s i wr => RelCa w ls s i wr) (fun s i _ => 3 - (intOf i).toNat)
  case atStart => exact ⟨0, rfl, rfl, by omega, rfl⟩
  case round =>
    obtain ⟨j, rfl, rfl, hj, rfl⟩ := hrel
    by_cases hj1 : j < 3
    · have b0 := HM.out j hj1
      have US := Lib.hid (upto_succ ls j)
      have r0 := HR.out.row j hj1
      have j0 : (0 : Int) ≤ (j : Int) := by omega
      have j1 : (j : Int) < 3 := by omega
      have T7 : IntKind.i64.wrap ((j : Int) + 1) = (j : Int) + 1 := IntWalk.i64_in _ (by omega)
      obtain ⟨n, hn⟩ : ∃ n, n = (upto ls j).length := ⟨_, rfl⟩
      obtain ⟨m, hm⟩ : ∃ m, m = (ls j).length := ⟨_, rfl⟩
      rw [← hn, ← hm] at b0 US
      rw [← hm] at r0
      rw [← hn]
      have T8 : IntKind.i64.wrap ((n : Int) + (m : Int)) = (n : Int) + (m : Int) := IntWalk.i64_in _ (by omega)
      have T9 : ¬ ((n : Int) + (m : Int) < 0) := by omega
      clear hn hm
      go_wp2
      go_roundw
      case rel => exact ⟨j + 1, by go_num, by rw [US.out]; go_num, by omega, rfl⟩
      case measure => simp [intOf]; omega
    · obtain rfl : j = 3 := by omega
      go_wp2_with fail
      refine (KG.out _).mono ?_
      rintro e w1 ⟨v, rfl, hO, hx⟩
      have HO := Lib.hid hO
      have HX := Lib.hid hx
      clear hO hx
      go_wp2
      go_loopw [6, 27] (fun o i wr => RelCb w w.heap.size ls o i wr) (fun o i _ => 3 - (intOf i).toNat)
      case atStart => exact ⟨0, rfl, by omega, HO.out, HX.out⟩
      case round =>
        obtain ⟨j, rfl, hj, hO2, hx2⟩ := hrel
        clear HO HX
        have HO := Lib.hid hO2
        have HX := Lib.hid hx2
        clear hO2 hx2
        by_cases hj1 : j < 3
        · have b0 := HM.out j hj1
          have US := Lib.hid (upto_succ ls j)
          have R := HR.out.ext HX.out
          have r0 := R.row j hj1
          have CC := Lib.hid (R.cel j hj1)
          have j0 : (0 : Int) ≤ (j : Int) := by omega
          have j1 : (j : Int) < 3 := by omega
          have T7 : IntKind.i64.wrap ((j : Int) + 1) = (j : Int) + 1 := IntWalk.i64_in _ (by omega)
          have LE := Lib.hid (cellsLs_len (ls j))
          have OA := HO.out
          have P1 := Lib.hid (ones_cells (ls := ls j))
          have P3 := Lib.hid (show (upto ls j).length + (ls j).length ≤ maxLen by unfold maxLen; omega)
          have P4 := Lib.hid (show ((upto ls j).length + (ls j).length) * 32 ≤ 140737488355328 by omega)
          have zA := Lib.hid (Ext.size HX.out)
          have CD := Lib.hid (show ∀ (q : Nat) (u : Value), (cellsLs (ls j))[q]? = some u → wr.cell? ((⟨g j, 0, none⟩ : Addr).add q) = some u from fun q u hu => by
            rw [show (⟨g j, 0, none⟩ : Addr).add q = ⟨g j, q, none⟩ by simp [Addr.add]; omega]; exact CC.out q u hu)
          clear R
          go_wp2_with (at_builtin; refine wpList_append_own _ rfl _ _ 118 rfl w.heap.size 27 i0 (Sg 0 0 0 0) 4 32 Tryz.underlying118 hin hz0 hz1 hz2 rfl (by decide) _ (upto ls j).length _ rfl OA ⟨g j, 0, none⟩ (ls j).length (c j) (cellsLs (ls j)) rfl LE.out CD.out P1.out P3.out P4.out zA.out ?_; intro v1 w5 hown hgrow hnil; have O5 := Lib.hid (show w5.ownsRow w.heap.size 27 4 v1 (upto ls (j + 1)).length (cellsLs (upto ls (j + 1))) by rw [US.out, upto_app, cellsLs_app]; exact hown); have X5 := Lib.hid (row_grown (w0 := w) OA hgrow (Nat.le_refl _) HX.out); clear hown hgrow hnil OA)
          go_roundw
          case rel => exact ⟨j + 1, by go_num, by omega, O5.out, X5.out⟩
          case measure => simp [intOf]; omega
        · obtain rfl : j = 3 := by omega
          go_wp2
          go_ret
          exact ⟨_, rfl, HO.out, HX.out⟩
end Go.Proofs.YtmlojndkpnhalaaGreat.Crs
namespace Go.Proofs.YtmlojndkpnhalaaGreat.Crs
open Go.ChangeShapes Go.WideShapes Go.ChangeAt Go.RowKit Go.PlainAid
open Go.Proofs.YtmlojndkpnhalaaGreat.Num Go.Proofs.YtmlojndkpnhalaaGreat.Kit Go.Proofs.YtmlojndkpnhalaaGreat.Pts Go.Proofs.YtmlojndkpnhalaaGreat.Seg Go.Proofs.YtmlojndkpnhalaaGreat.Div Go.Proofs.YtmlojndkpnhalaaGreat.Root Go.Proofs.YtmlojndkpnhalaaGreat.Rt
open Go.Proofs.YtmlojndkpnhalaaGreat.Trk (F3 Fxs Tr trB)
set_option linter.unusedVariables false
set_option linter.unusedSimpArgs false
def lcC (l k : L4) (ms : List M5) (ok : Bool) : Int := if crB l k ms = true ∧ ok = true then (if lsB l k ms = true then 0 else 2) else 1
theorem lc_bad {l k : L4} {ms : List M5} {ok : Bool} (h : crB l k ms = false ∨ ok = false) : lcC l k ms ok = 1 := by
  unfold lcC; rw [if_neg]; rintro ⟨a, b⟩; rcases h with h | h
  · rw [a] at h; cases h
  · rw [b] at h; cases h
theorem lc_range {l k : L4} {ms : List M5} {ok : Bool} (h : crB l k ms = true) (g : ok = true) (q : lsB l k ms = false) : lcC l k ms ok = 2 := by
  unfold lcC; rw [if_pos ⟨h, g⟩, q]; rfl
theorem lc_yes {l k : L4} {ms : List M5} {ok : Bool} (h : crB l k ms = true) (g : ok = true) (q : lsB l k ms = true) : lcC l k ms ok = 0 := by
  unfold lcC; rw [if_pos ⟨h, g⟩, q]; rfl
theorem lc_zero {l k : L4} {ms : List M5} {ok : Bool} (h : lcC l k ms ok = 0) : crB l k ms = true ∧ ok = true ∧ lsB l k ms = true := by
  cases hq : crB l k ms
  · rw [lc_bad (.inl hq)] at h; cases h
  · cases ho : ok
    · rw [lc_bad (.inr ho)] at h; cases h
    · cases hl : lsB l k ms
      · rw [lc_range hq ho hl] at h; cases h
      · exact ⟨rfl, rfl, rfl⟩
theorem lsB_all (l k : L4) (ms : List M5) : (List.range (rlS l k ms ms.length).length).all (lnB (rlS l k ms ms.length)) = lsB l k ms := by
  rw [rlS_len, Bool.eq_iff_iff, List.all_eq_true]
  unfold lsB
  rw [List.all_eq_true]
  have e : ∀ i, i < ms.length → lnB (rlS l k ms ms.length) i = rlB l k ms i := fun i hi => by unfold lnB rlB; rw [rlS_get l k ms _ i hi]
  exact ⟨fun h i hi => by rw [← e i (by simpa using hi)]; exact h i hi, fun h i hi => by rw [e i (by simpa using hi)]; exact h i hi⟩
def LinesI (w : World) (base : Nat) (l k : L4) (ms : List M5) (ok : Bool) (e : Ending) (w' : World) : Prop :=
  ∃ v, e = .returned (.tuple #[v, .int .i64 (lcC l k ms ok)]) ∧ (lcC l k ms ok = 0 → OwnL w' base v (stS l k ms)) ∧ Ext w w'
set_option maxRecDepth 100000 in
set_option maxHeartbeats 8000000 in
theorem linesToSail_any (l k : L4) (a : Option Addr) (cap : Nat) (ms : List M5) (at_ : Option Addr) (ct : Nat) (ts : List T1) (w : World) (hf : Mks w a ms) (ht : Tks w at_ ts) :
    Calls Tryz.prog 64 #[CV l k (.slice a ms.length cap), .slice at_ ts.length ct] w (LinesI w w.heap.size l k ms (tsB ts)) := by
  obtain ⟨W0, hW0⟩ : ∃ W0, W0 = w.alloc (.cells (cellsC l k (.slice a ms.length cap)).toArray 30) := ⟨_, rfl⟩
  have HW := Lib.hid (show Ext w W0 from hW0 ▸ (Ext.refl w).alloc _)
  have BB := Lib.hid (show Box W0 w.heap.size (cellsC l k (.slice a ms.length cap)) from hW0 ▸ Box.new rfl)
  have HF := Lib.hid (hf.ext HW.out)
  have HT := Lib.hid (ht.ext HW.out)
  clear hf ht
  cases hq : crB l k ms
  · have H := Lib.hid (lc_bad (l := l) (k := k) (ms := ms) (ok := tsB ts) (.inl hq))
    go_enter Tryz.func64, Tryz.ntmps64
    go_wp2_with fail
    rw [← hW0]
    clear hW0
    refine (courseValid_any _ _ _ _ _ _ HF.out).mono ?_
    rw [hq]
    rintro e w1 ⟨rfl, hx⟩
    go_wp2
    go_ret2
    exact ⟨_, ret_vi H.out, fun h => absurd (h.symm.trans H.out) (by decide), HW.out.trans hx⟩
  have KC := Lib.hid (fun w (h : Tks w at_ ts) => areValid_any at_ ct ts w h)
  cases ho : tsB ts
  · have H := Lib.hid (lc_bad (l := l) (k := k) (ms := ms) (ok := false) (.inr rfl))
    rw [ho] at KC
    clear ho
    go_enter Tryz.func64, Tryz.ntmps64
    go_wp2_with fail
    rw [← hW0]
    clear hW0
    refine (courseValid_any _ _ _ _ _ _ HF.out).mono ?_
    rw [hq]
    rintro e w1 ⟨rfl, hx⟩
    go_wp2_with fail
    refine (KC.out _ (HT.out.ext hx)).mono ?_
    rintro e w2 ⟨rfl, hy⟩
    go_wp2
    go_ret2
    exact ⟨_, ret_vi H.out, fun h => absurd (h.symm.trans H.out) (by decide), HW.out.trans (hx.trans hy)⟩
  rw [ho] at KC
  have KR := Lib.hid (fun w hf => roundingLines_any l k a cap ms w hf hq)
  have h8 := cr_eight hq
  have h1 : 1 ≤ ms.length := by
    unfold crB at hq; simp only [Bool.and_eq_true, decide_eq_true_eq] at hq; exact hq.1
  have RC := Lib.hid (rlS_cells l k ms ms.length)
  have RN := Lib.hid (rlS_len l k ms ms.length)
  have KB := Lib.hid (lsB_all l k ms)
  have EU := Lib.hid (show upto (fun i => if i = 0 then [l] else if i = 1 then rlS l k ms ms.length else [k]) 3 = stS l k ms by simp [upto, stS])
  cases hl : lsB l k ms
  · have H := Lib.hid (lc_range (ok := true) hq rfl hl)
    rw [hl] at KB
    go_enter Tryz.func64, Tryz.ntmps64
    go_wp2_with fail
    rw [← hW0]
    clear hW0
    refine (courseValid_any _ _ _ _ _ _ HF.out).mono ?_
    rw [hq]
    rintro e w1 ⟨rfl, hx⟩
    go_wp2_with fail
    refine (KC.out _ (HT.out.ext hx)).mono ?_
    rintro e w2 ⟨rfl, hy⟩
    have X2 := Lib.hid (hx.trans hy)
    clear hx hy
    obtain ⟨⟨p0, p1, p2, p3, p4, p5, p6, p7, p8⟩, _⟩ := Box.nine (BB.out.ext X2.out)
    go_wp2_with fail
    refine (KR.out _ (HF.out.ext X2.out)).mono ?_
    rintro e w3 ⟨v, rfl, hO, hy⟩
    obtain ⟨av, cv, rfl, hL⟩ := OwnL.lxs (ls := rlS l k ms ms.length) (show OwnL w3 w2.heap.size v (rlS l k ms ms.length) by unfold OwnL; rw [RC.out, RN.out]; exact hO) (by rw [RN.out]; omega)
    have KL := Lib.hid (containsLine_any av cv (rlS l k ms ms.length) w3 hL)
    rw [KB.out] at KL
    clear hO hL p0 p1 p2 p3 p4 p5 p6 p7 p8
    go_wp2_with fail
    refine KL.out.mono ?_
    rintro e w4 ⟨rfl, hz⟩
    go_wp2
    go_ret2
    exact ⟨_, ret_vi H.out, fun h => absurd (h.symm.trans H.out) (by decide), HW.out.trans (X2.out.trans (hy.trans hz))⟩
  · have H := Lib.hid (lc_yes (ok := true) hq rfl hl)
    rw [hl] at KB
    go_enter Tryz.func64, Tryz.ntmps64
    go_wp2_with fail
    rw [← hW0]
    clear hW0
    refine (courseValid_any _ _ _ _ _ _ HF.out).mono ?_
    rw [hq]
    rintro e w1 ⟨rfl, hx⟩
    go_wp2_with fail
    refine (KC.out _ (HT.out.ext hx)).mono ?_
    rintro e w2 ⟨rfl, hy⟩
    have X2 := Lib.hid (hx.trans hy)
    clear hx hy
    obtain ⟨⟨p0, p1, p2, p3, p4, p5, p6, p7, p8⟩, _⟩ := Box.nine (BB.out.ext X2.out)
    go_wp2_with fail
    refine (KR.out _ (HF.out.ext X2.out)).mono ?_
    rintro e w3 ⟨v, rfl, hO, hy⟩
    obtain ⟨g, cv, rfl, hcp, hg0, hC⟩ := row_some hO (by omega)
    obtain ⟨av, cv', hav, hL⟩ := OwnL.lxs (ls := rlS l k ms ms.length) (show OwnL w3 w2.heap.size (.slice (some ⟨g, 0, none⟩) ms.length cv) (rlS l k ms ms.length) by unfold OwnL; rw [RC.out, RN.out]; exact hO) (by rw [RN.out]; omega)
    obtain ⟨rfl, rfl⟩ : av = some ⟨g, 0, none⟩ ∧ cv' = cv := by
      rw [RN.out] at hav; simp at hav; exact ⟨hav.1.symm, hav.2.symm⟩
    have KL := Lib.hid (containsLine_any (some ⟨g, 0, none⟩) cv' (rlS l k ms ms.length) w3 hL)
    rw [KB.out, RN.out] at KL
    have X3 := Lib.hid (X2.out.trans hy)
    clear hy hL hav p0 p1 p2 p3 p4 p5 p6 p7 p8
    go_wp2_with fail
    refine KL.out.mono ?_
    rintro e w4 ⟨rfl, hz⟩
    have X4 := Lib.hid (X3.out.trans hz)
    obtain ⟨⟨p0, p1, p2, p3, p4, p5, p6, p7, p8⟩, _⟩ := Box.nine (BB.out.ext X4.out)
    have q4 : ∀ A, (w4.alloc A).cell? ⟨w.heap.size, 4, none⟩ = some (.int .i64 k.a) := fun A => ((Ext.refl w4).alloc A).cellOf p4
    have q5 : ∀ A, (w4.alloc A).cell? ⟨w.heap.size, 5, none⟩ = some (.int .i64 k.b) := fun A => ((Ext.refl w4).alloc A).cellOf p5
    have q6 : ∀ A, (w4.alloc A).cell? ⟨w.heap.size, 6, none⟩ = some (.int .i64 k.c) := fun A => ((Ext.refl w4).alloc A).cellOf p6
    have q7 : ∀ A, (w4.alloc A).cell? ⟨w.heap.size, 7, none⟩ = some (.int .i64 k.d) := fun A => ((Ext.refl w4).alloc A).cellOf p7
    have HC := Lib.hid (fun j (hj : j < ms.length * 4) => hC j hj)
    clear hC hO
    obtain ⟨W5, hW5⟩ : ∃ W5, W5 = ((w4.alloc (.cells #[.int .i64 l.a, .int .i64 l.b, .int .i64 l.c, .int .i64 l.d] 27)).alloc (.cells #[.int .i64 k.a, .int .i64 k.b, .int .i64 k.c, .int .i64 k.d] 27)).alloc (.cells #[.slice (some ⟨w4.heap.size, 0, none⟩) 1 1, .slice (some ⟨g, 0, none⟩) ms.length cv', .slice (some ⟨w4.heap.size + 1, 0, none⟩) 1 1] 118) := ⟨_, rfl⟩
    have hX5 : Ext w4 W5 := hW5 ▸ (((Ext.refl w4).alloc _).alloc _).alloc _
    have B0 : Box W5 w4.heap.size (cellsL l) := by rw [hW5]; exact ((Box.new (vs := cellsL l) rfl).alloc _).alloc _
    have B1 : Box W5 (w4.heap.size + 1) (cellsL k) := by rw [hW5]; exact (Box.new (vs := cellsL k) (by simp)).alloc _
    have B2 : Box W5 (w4.heap.size + 1 + 1) [.slice (some ⟨w4.heap.size, 0, none⟩) 1 1, .slice (some ⟨g, 0, none⟩) ms.length cv', .slice (some ⟨w4.heap.size + 1, 0, none⟩) 1 1] := by rw [hW5]; exact Box.new (vs := [.slice (some ⟨w4.heap.size, 0, none⟩) 1 1, .slice (some ⟨g, 0, none⟩) ms.length cv', .slice (some ⟨w4.heap.size + 1, 0, none⟩) 1 1]) (by simp)
    have R3 : Rows3 W5 (w4.heap.size + 1 + 1) (fun i => if i = 0 then w4.heap.size else if i = 1 then g else w4.heap.size + 1) (fun i => if i = 1 then cv' else 1) (fun i => if i = 0 then [l] else if i = 1 then rlS l k ms ms.length else [k]) := by
      refine ⟨fun i hi => ?_, fun i hi j u hu => ?_, fun i hi => ?_, ?_⟩
      · match i, hi with
        | 0, _ => exact (B2 0 _ rfl).1
        | 1, _ => rw [show ((fun i => if i = 0 then [l] else if i = 1 then rlS l k ms ms.length else [k]) 1 : List L4).length = ms.length from RN.out]; exact (B2 1 _ rfl).1
        | 2, _ => exact (B2 2 _ rfl).1
      · match i, hi with
        | 0, _ => exact (B0 j u (by rw [← cellsLs_one]; exact hu)).1
        | 1, _ =>
          have hu2 : (rlC l k ms ms.length)[j]? = some u := by rw [← RC.out]; exact hu
          have hj : j < ms.length * 4 := by
            have := (List.getElem?_eq_some_iff.1 hu2).1
            rwa [rlC_len] at this
          exact hX5.cellOf (hz.cellOf ((HC.out j hj).trans hu2))
        | 2, _ => exact (B1 j u (by rw [← cellsLs_one]; exact hu)).1
      · match i, hi with
        | 0, _ => simp
        | 1, _ => show 1 ≤ (rlS l k ms ms.length).length; rw [RN.out]; exact h1
        | 2, _ => simp
      · show 1 + (rlS l k ms ms.length).length + 1 ≤ 1000
        rw [RN.out]; omega
    have KT := Lib.hid (concat3_any (w4.heap.size + 1 + 1) 3 _ _ _ W5 R3)
    have XW := Lib.hid (HW.out.trans (X4.out.trans hX5))
    clear R3 B0 B1 B2 hX5 HC hz X3 X4
    go_wp2_with fail
    rw [← hW5]
    clear hW5
    refine KT.out.mono ?_
    rintro e w6 ⟨v6, rfl, hO6, hx6⟩
    have O6 := Lib.hid hO6
    rw [EU.out] at O6
    have X6 := Lib.hid (XW.out.trans hx6)
    have zB := Lib.hid (Ext.size XW.out)
    clear hO6 hx6 p0 p1 p2 p3 p4 p5 p6 p7 p8 q4 q5 q6 q7
    go_wp2
    go_ret2
    exact ⟨_, ret_vi H.out, fun _ => row_mono O6.out zB.out, X6.out⟩
end Go.Proofs.YtmlojndkpnhalaaGreat.Crs
