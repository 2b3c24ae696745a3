/- Incidents of the laws as incidents of the program, rows of them; comparing, marking, looking whether the marks are held (chapter 12's laws). -/
import Derived.Test.YtknelhceaoblhaaIv0
import Derived.Test.YtknelhceaoblhaaMnv
namespace Go.Proofs.Ytknelhceaoblhaa.Iv
open Go.ChangeShapes Go.WideShapes Go.ChangeAt Go.RowKit Go.PlainAid
open Go.Proofs.Ytknelhceaoblhaa.Num Go.Proofs.Ytknelhceaoblhaa.Kit
open Go.Proofs.Ytknelhceaoblhaa.Mnv (row_ext row_mono row_grown row_grownC RelE ChgV)
set_option linter.unusedVariables false
set_option linter.unusedSimpArgs false

theorem toIncident_any (a b c d e : Int) (w : World) : Calls Try.prog 34 #[V5 a b c d e] w fun x w' => x = .returned (V5 a b c d e) ∧ Ext w w' := by
  go_enter Try.func34, Try.ntmps34
  go_wp2
  exact bodyPost_ret (v := V5 a b c d e) (by simp [results, Try.results34, go_sem]) rfl ⟨rfl, (by repeat (first | exact Ext.refl _ | assumption | apply Ext.alloc | apply Ext.drew | (refine Ext.trans ?_ (by assumption)) | (refine Ext.setNew ?_ (by simp <;> omega) _)))⟩
theorem eqIncident_same (a b c d e : Int) (w : World) : Calls Try.prog 35 #[V5 a b c d e, V5 a b c d e] w fun x w' => x = .returned (.bool true) ∧ Ext w w' := by
  go_enter Try.func35, Try.ntmps35
  go_wp2
  go_ret
  exact ⟨rfl, (by repeat (first | exact Ext.refl _ | assumption | apply Ext.alloc | apply Ext.drew | (refine Ext.trans ?_ (by assumption)) | (refine Ext.setNew ?_ (by simp <;> omega) _)))⟩

/-- What is left of a bound behind a slice's length. -/
def szI (m : Int) (len : Nat) : Int := if m - len < 0 then -1 else m - len
theorem szI_neg {m : Int} {len : Nat} (h : m - len < 0) : szI m len = -1 := if_pos h
theorem szI_pos {m : Int} {len : Nat} (h : ¬ m - len < 0) : szI m len = m - len := if_neg h
theorem szIncidentS_any (a : Option Addr) (len cap : Nat) (m : Int) (w : World) (hl : len ≤ maxLen) (h0 : 0 ≤ m) (hm : m ≤ 1048576) :
    Calls Try.prog 18 #[.slice a len cap, .int .i64 m] w fun e w' => e = .returned (.int .i64 (szI m len)) ∧ w = w' := by
  unfold maxLen at hl
  by_cases h : m - len < 0
  · have H := Lib.hid (szI_neg h)
    go_enter Try.func18, Try.ntmps18
    go_wp2
    go_ret
    exact ⟨ret_int H.out, rfl⟩
  · have H := Lib.hid (szI_pos h)
    go_enter Try.func18, Try.ntmps18
    go_wp2
    go_ret
    exact ⟨ret_int H.out, rfl⟩

def RelT5 (w : World) (xs : List I5) (i : Value) (wr : World) : Prop :=
  ∃ (k : Nat) (L : List Value), i = .int .i64 k ∧ k ≤ xs.length ∧ L.length = xs.length * 5 ∧ Box wr w.heap.size L ∧ (∀ j, j < k → IIn L (j * 5) (ix xs j)) ∧ Ext w wr
theorem RelT5.step {w w2 : World} {xs : List I5} {k : Nat} {L : List Value} (hk : k < xs.length) (hL : L.length = xs.length * 5) (hB : Box w2 w.heap.size L) (hd : ∀ j, j < k → IIn L (j * 5) (ix xs j)) (hx : Ext w w2) :
    RelT5 w xs (.int .i64 (k + 1)) (((((w2.setCell ⟨w.heap.size, k * 5, none⟩ (.int .i64 (ix xs k).t)).setCell ⟨w.heap.size, k * 5 + 1, none⟩ (.int .i64 (ix xs k).f)).setCell ⟨w.heap.size, k * 5 + 2, none⟩ (.int .i64 (ix xs k).s)).setCell ⟨w.heap.size, k * 5 + 3, none⟩ (.int .i64 (ix xs k).k)).setCell ⟨w.heap.size, k * 5 + 4, none⟩ (.int .i64 (ix xs k).r)) := by
  refine ⟨k + 1, _, by go_num, by omega, ?_, Box.put5 hB (by omega) _ _ _ _ _, fun j hj => ?_, ?_⟩
  · rw [set5L_len]; exact hL
  · by_cases e : j = k
    · subst e; exact set5L_in _ (by omega)
    · exact (hd j (by omega)).off (by omega)
  · exact ((((hx.setNew (Nat.le_refl _) _).setNew (Nat.le_refl _) _).setNew (Nat.le_refl _) _).setNew (Nat.le_refl _) _).setNew (Nat.le_refl _) _

theorem incInfo : (Try.prog.info? 67).map (fun i => (i.zero, i.size, i.bytes)) = some (some (V5 0 0 0 0 0), 5, 40) := by kernel_rfl

set_option maxHeartbeats 2000000 in
theorem toIncidentS_any (a : Option Addr) (cap : Nat) (xs : List I5) (w : World) (hf : Ivs w a xs) (hl : xs.length ≤ 1048576) :
    Calls Try.prog 20 #[.slice a xs.length cap] w fun e w' => ∃ B L, e = .returned (.slice (some ⟨B, 0, none⟩) xs.length xs.length) ∧ (w.heap.size ≤ B ∧ B < w'.heap.size) ∧ L.length = xs.length * 5 ∧ Box w' B L ∧ (∀ i, i < xs.length → IIn L (i * 5) (ix xs i)) ∧ Ext w w' := by
  have HF := Lib.hid hf
  have hm : xs.length ≤ 1000000000 := by omega
  clear hf hl
  obtain ⟨i0, hi, hz0, hz1, hz2⟩ := info_parts incInfo
  go_enter Try.func20, Try.ntmps20
  go_wp2_with (at_make; refine wpList_make_full _ rfl _ _ 47 rfl w.heap.size 67 i0 (V5 0 0 0 0 0) 5 Try.underlying47 hi hz0 hz1 _ _ _ _ xs.length rfl rfl rfl rfl (by rw [hz2]; omega) (by unfold maxLen; omega) (Nat.le_refl _) ?_; intro w1 hown hgrow)
  have HO := Lib.hid (made5 hown)
  have HG := Lib.hid (grown_none5 hgrow)
  have HLT := Lib.hid (World.ownsRow.lt hown w.heap.size rfl).2
  clear hown hgrow
  go_loopw [4] (fun i wr => RelT5 w xs i wr ∧ w1.heap.size ≤ wr.heap.size) (fun i _ => xs.length - (intOf i).toNat)
  case atStart => exact ⟨⟨0, _, rfl, Nat.zero_le _, by simp [size_madeCells], HO.out, fun j hj => absurd hj (by omega), HG.out⟩, Nat.le_refl _⟩
  case round =>
    obtain ⟨⟨k, L, rfl, hk, hL, hc, hd, hx⟩, hsz⟩ := hrel
    have HC := Lib.hid hc
    have HD := Lib.hid hd
    have HX := Lib.hid hx
    have HL := Lib.hid hL
    clear hc hd hx hL
    by_cases hk1 : k < xs.length
    · obtain ⟨b, off, rfl, hb⟩ := HF.out.row (by omega)
      obtain ⟨c0, c1, c2, c3, c4⟩ := ((hb k hk1).ext HX.out).five
      clear hb
      go_wp2_with fail
      refine (toIncident_any _ _ _ _ _ _).mono ?_
      rintro e w2 ⟨rfl, hy⟩
      have HB2 := Lib.hid (HC.out.ext hy)
      obtain ⟨⟨v0, d0⟩, f0⟩ := Box.at5 HB2.out (o := k * 5) (by have := HL.out; omega) 0 (by omega)
      obtain ⟨⟨v1, d1⟩, f1⟩ := Box.at5 HB2.out (o := k * 5) (by have := HL.out; omega) 1 (by omega)
      obtain ⟨⟨v2, d2⟩, f2⟩ := Box.at5 HB2.out (o := k * 5) (by have := HL.out; omega) 2 (by omega)
      obtain ⟨⟨v3, d3⟩, f3⟩ := Box.at5 HB2.out (o := k * 5) (by have := HL.out; omega) 3 (by omega)
      obtain ⟨⟨v4, d4⟩, f4⟩ := Box.at5 HB2.out (o := k * 5) (by have := HL.out; omega) 4 (by omega)
      rw [Nat.add_zero] at d0 f0
      have HY := Lib.hid (HX.out.trans hy)
      replace hsz := Nat.le_trans hsz (Ext.size hy)
      clear hy c0 c1 c2 c3 c4
      go_wp2
      go_roundw
      case rel => exact ⟨RelT5.step hk1 HL.out HB2.out HD.out HY.out, by simpa using hsz⟩
      case measure => simp [intOf]; omega
    · obtain rfl : k = xs.length := by omega
      go_wp2
      go_ret
      exact ⟨w.heap.size, L, rfl, ⟨Nat.le_refl _, Nat.lt_of_lt_of_le HLT.out hsz⟩, HL.out, HC.out, HD.out, HX.out⟩

set_option maxHeartbeats 2000000 in
theorem eqIncidentS_same (a b : Option Addr) (cap cap' : Nat) (xs : List I5) (w : World) (ha : Ivs w a xs) (hb : Ivs w b xs) : Calls Try.prog 22 #[.slice a xs.length cap, .slice b xs.length cap'] w fun e w' => e = .returned (.bool true) ∧ Ext w w' := by
  have hm := ha.1
  unfold maxLen at hm
  have HA := Lib.hid ha
  have HB := Lib.hid hb
  clear ha hb
  go_enter Try.func22, Try.ntmps22
  go_wp2
  go_loopw [5] (fun i wr => RelE w xs.length i wr) (fun i _ => xs.length - (intOf i).toNat)
  case atStart => exact ⟨0, rfl, Nat.zero_le _, Ext.refl _⟩
  case round =>
    obtain ⟨k, rfl, hk, hx⟩ := hrel
    have HX := Lib.hid hx
    clear hx
    by_cases hk1 : k < xs.length
    · obtain ⟨b1, o1, rfl, h1⟩ := HA.out.row (by omega)
      obtain ⟨b2, o2, rfl, h2⟩ := HB.out.row (by omega)
      have p0 := (h1 k hk1).ext HX.out
      have q0 := (h2 k hk1).ext HX.out
      clear h1 h2
      have e0 : ∀ w', Ext wr w' → w'.cell? ⟨b1, o1 + k * 5, none⟩ = some (.int .i64 (ix xs k).t) := fun w' h => (p0.ext h).five.1
      have e1 : ∀ w', Ext wr w' → w'.cell? ⟨b1, o1 + k * 5 + 1, none⟩ = some (.int .i64 (ix xs k).f) := fun w' h => (p0.ext h).five.2.1
      have e2 : ∀ w', Ext wr w' → w'.cell? ⟨b1, o1 + k * 5 + 2, none⟩ = some (.int .i64 (ix xs k).s) := fun w' h => (p0.ext h).five.2.2.1
      have e3 : ∀ w', Ext wr w' → w'.cell? ⟨b1, o1 + k * 5 + 3, none⟩ = some (.int .i64 (ix xs k).k) := fun w' h => (p0.ext h).five.2.2.2.1
      have e4 : ∀ w', Ext wr w' → w'.cell? ⟨b1, o1 + k * 5 + 4, none⟩ = some (.int .i64 (ix xs k).r) := fun w' h => (p0.ext h).five.2.2.2.2
      have g0 : ∀ w', Ext wr w' → w'.cell? ⟨b2, o2 + k * 5, none⟩ = some (.int .i64 (ix xs k).t) := fun w' h => (q0.ext h).five.1
      have g1 : ∀ w', Ext wr w' → w'.cell? ⟨b2, o2 + k * 5 + 1, none⟩ = some (.int .i64 (ix xs k).f) := fun w' h => (q0.ext h).five.2.1
      have g2 : ∀ w', Ext wr w' → w'.cell? ⟨b2, o2 + k * 5 + 2, none⟩ = some (.int .i64 (ix xs k).s) := fun w' h => (q0.ext h).five.2.2.1
      have g3 : ∀ w', Ext wr w' → w'.cell? ⟨b2, o2 + k * 5 + 3, none⟩ = some (.int .i64 (ix xs k).k) := fun w' h => (q0.ext h).five.2.2.2.1
      have g4 : ∀ w', Ext wr w' → w'.cell? ⟨b2, o2 + k * 5 + 4, none⟩ = some (.int .i64 (ix xs k).r) := fun w' h => (q0.ext h).five.2.2.2.2
      clear p0 q0
      have i0 : (0 : Int) ≤ (k : Int) := by omega
      have i1 : (k : Int) < (xs.length : Int) := by omega
      generalize ix xs k = p at *
      go_wp2_with fail
      refine wp_region_held_drew (S := (fun w' => Ext wr w')) (by kernel_rfl) (by (try dsimp only); first | go_keep | exact (Ext.refl _).drew | exact Res.new2.drew | exact Res.new4.drew | exact ResB.drew (by assumption) | exact ResC.drew (by assumption) | assumption | exact Ext.drew (by assumption) | exact Res.drew (by assumption)) (fun hHeld => ?_)
      refine Ord.K 0 17 ?_
      refine Ord.K 1 18 ?_
      refine Ord.K 2 19 ?_
      refine Ord.K 3 20 ?_
      refine Ord.K 4 21 ?_
      refine Ord.K 5 22 ?_
      refine Ord.K 6 23 ?_
      refine Ord.K 7 24 ?_
      (refine wpAnyH_ready (rs := [8]) (by kernel_rfl) (by simp) ?_; refine AllReadyH.cons rfl (fun K hK => ?_) AllReadyH.nil; go_simp; (go_at_call 35; refine (eqIncident_same _ _ _ _ _ _).mono ?_; rintro e wy ⟨rfl, hy⟩); go_wp2_with fail; (refine hK.out _ _ (by first | assumption | exact Ext.trans (by assumption) hy | exact Res.ext (by assumption) hy | exact ResB.ext (by assumption) hy | exact ResC.ext (by assumption) hy | (go_split_ands; (repeat' apply And.intro) <;> exact Ext.cellOf hy (by assumption))) (fun hHeld => ?_)); clear hK K; (try simp only [Act.put, Ord.a, Ord.b, Ord.c]))
      refine Ord.K 9 26 ?_
      refine wpAnyH_done (by kernel_rfl) ?_ _
      have HX2 := Lib.hid (HX.out.trans (by assumption : Ext wr wy))
      go_wp2
      go_roundw
      case rel => exact ⟨k + 1, by go_num, by omega, HX2.out⟩
      case measure => simp [intOf]; omega
    · obtain rfl : k = xs.length := by omega
      go_wp2
      go_ret
      exact ⟨rfl, HX.out⟩

/-- The marks of an incident from a number on. -/
def mkI (k : Int) (i : Nat) : I5 := ⟨k + 5 * i, k + 5 * i + 1, k + 5 * i + 2, k + 5 * i + 3, k + 5 * i + 4⟩
def RelMI (w : World) (B n : Nat) (k : Int) (s i : Value) (wr : World) : Prop :=
  ∃ (j : Nat) (L : List Value), i = .int .i64 j ∧ s = .int .i64 (k + 5 * j) ∧ j ≤ n ∧ L.length = n * 5 ∧ Box wr B L ∧ (∀ m, m < j → IIn L (m * 5) (mkI k m)) ∧ Chg B w wr
theorem RelMI.step {w wr : World} {B n j : Nat} {k K : Int} {L : List Value} (hj : j < n) (hL : L.length = n * 5) (hB : Box wr B L) (hd : ∀ m, m < j → IIn L (m * 5) (mkI k m)) (hx : Chg B w wr) (hK : K = k + 5 * (j : Int)) :
    RelMI w B n k (.int .i64 (K + 1 + 1 + 1 + 1 + 1)) (.int .i64 ((j : Int) + 1)) (((((wr.setCell ⟨B, j * 5, none⟩ (.int .i64 K)).setCell ⟨B, j * 5 + 1, none⟩ (.int .i64 (K + 1))).setCell ⟨B, j * 5 + 2, none⟩ (.int .i64 (K + 1 + 1))).setCell ⟨B, j * 5 + 3, none⟩ (.int .i64 (K + 1 + 1 + 1))).setCell ⟨B, j * 5 + 4, none⟩ (.int .i64 (K + 1 + 1 + 1 + 1))) := by
  have e : mkI k j = ⟨K, K + 1, K + 1 + 1, K + 1 + 1 + 1, K + 1 + 1 + 1 + 1⟩ := by
    unfold mkI; rw [hK]; congr 1 <;> omega
  refine ⟨j + 1, _, by go_num, by rw [hK]; congr 1; omega, by omega, by rw [set5L_len]; exact hL, Box.put5 hB (by omega) _ _ _ _ _, fun m hm => ?_, ((((hx.setCell _ _).setCell _ _).setCell _ _).setCell _ _).setCell _ _⟩
  by_cases q : m = j
  · subst q; rw [e]; exact set5L_in _ (by omega)
  · exact (hd m (by omega)).off (by omega)

set_option maxHeartbeats 4000000 in
theorem markIncidentS_any (B cap n : Nat) (k : Int) (L : List Value) (w : World) (hL : L.length = n * 5) (hB : Box w B L) (hn : n ≤ 1048576) (k0 : 0 ≤ k) (k1 : k ≤ 1000) :
    Calls Try.prog 23 #[.slice (some ⟨B, 0, none⟩) n cap, .int .i64 k] w fun e w' => e = .returned (.int .i64 (k + 5 * n)) ∧ (∃ M : List Value, M.length = n * 5 ∧ Box w' B M ∧ ∀ m, m < n → IIn M (m * 5) (mkI k m)) ∧ Chg B w w' := by
  have HB := Lib.hid hB
  have HL := Lib.hid hL
  clear hB hL
  go_enter Try.func23, Try.ntmps23
  go_wp2
  go_loopw [1, 5] (fun s i wr => RelMI w B n k s i wr) (fun s i _ => n - (intOf i).toNat)
  case atStart => exact ⟨0, L, rfl, by simp, Nat.zero_le _, HL.out, HB.out, fun m hm => absurd hm (by omega), Chg.refl _ _⟩
  case round =>
    obtain ⟨j, M, rfl, rfl, hj, hM, hb, hd, hx⟩ := hrel
    have HM := Lib.hid hM
    have HB2 := Lib.hid hb
    have HX := Lib.hid hx
    have HD := Lib.hid hd
    clear hM hb hx hd
    by_cases hj1 : j < n
    · obtain ⟨⟨v0, d0⟩, f0⟩ := Box.at5 HB2.out (o := j * 5) (by have := HM.out; omega) 0 (by omega)
      obtain ⟨⟨v1, d1⟩, f1⟩ := Box.at5 HB2.out (o := j * 5) (by have := HM.out; omega) 1 (by omega)
      obtain ⟨⟨v2, d2⟩, f2⟩ := Box.at5 HB2.out (o := j * 5) (by have := HM.out; omega) 2 (by omega)
      obtain ⟨⟨v3, d3⟩, f3⟩ := Box.at5 HB2.out (o := j * 5) (by have := HM.out; omega) 3 (by omega)
      obtain ⟨⟨v4, d4⟩, f4⟩ := Box.at5 HB2.out (o := j * 5) (by have := HM.out; omega) 4 (by omega)
      rw [Nat.add_zero] at d0 f0
      have i0 : (0 : Int) ≤ (j : Int) := by omega
      have i1 : (j : Int) < (n : Int) := by omega
      have T0 : IntKind.i64.wrap ((j : Int) + 1) = (j : Int) + 1 := IntWalk.i64_in _ (by omega)
      obtain ⟨K, hK⟩ : ∃ K, K = k + 5 * (j : Int) := ⟨_, rfl⟩
      have T1 : IntKind.i64.wrap (K + 1) = K + 1 := IntWalk.i64_in _ (by omega)
      have T2 : IntKind.i64.wrap (K + 1 + 1) = K + 1 + 1 := IntWalk.i64_in _ (by omega)
      have T3 : IntKind.i64.wrap (K + 1 + 1 + 1) = K + 1 + 1 + 1 := IntWalk.i64_in _ (by omega)
      have T4 : IntKind.i64.wrap (K + 1 + 1 + 1 + 1) = K + 1 + 1 + 1 + 1 := IntWalk.i64_in _ (by omega)
      have T5 : IntKind.i64.wrap (K + 1 + 1 + 1 + 1 + 1) = K + 1 + 1 + 1 + 1 + 1 := IntWalk.i64_in _ (by omega)
      have HK := Lib.hid hK
      rw [← hK]
      clear hK
      have z0 : decide ((j : Int) < (n : Int)) = true := decide_eq_true i1
      go_wp2
      go_roundw
      case rel => exact RelMI.step hj1 HM.out HB2.out HD.out HX.out HK.out
      case measure => simp [intOf]; omega
    · obtain rfl : j = n := by omega
      go_wp2
      go_ret
      exact ⟨rfl, ⟨M, HM.out, HB2.out, HD.out⟩, HX.out⟩

def RelWI (w : World) (n : Nat) (k : Int) (s i : Value) (wr : World) : Prop := ∃ j : Nat, i = .int .i64 j ∧ s = .int .i64 (k + 5 * j) ∧ j ≤ n ∧ w = wr
theorem mk_cells {w : World} {B n : Nat} {k : Int} {M : List Value} (hB : Box w B M) (hd : ∀ m, m < n → IIn M (m * 5) (mkI k m)) {j : Nat} (hj : j < n) {K : Int} (hK : K = k + 5 * (j : Int)) :
    w.cell? ⟨B, j * 5, none⟩ = some (.int .i64 K) ∧ w.cell? ⟨B, j * 5 + 1, none⟩ = some (.int .i64 (K + 1)) ∧ w.cell? ⟨B, j * 5 + 2, none⟩ = some (.int .i64 (K + 1 + 1)) ∧ w.cell? ⟨B, j * 5 + 3, none⟩ = some (.int .i64 (K + 1 + 1 + 1)) ∧ w.cell? ⟨B, j * 5 + 4, none⟩ = some (.int .i64 (K + 1 + 1 + 1 + 1)) := by
  have e : mkI k j = ⟨K, K + 1, K + 1 + 1, K + 1 + 1 + 1, K + 1 + 1 + 1 + 1⟩ := by
    unfold mkI; rw [hK]; congr 1 <;> omega
  have h := hd j hj
  rw [e] at h
  exact ⟨(hB _ _ (h 0 _ rfl)).1, (hB _ _ (h 1 _ rfl)).1, (hB _ _ (h 2 _ rfl)).1, (hB _ _ (h 3 _ rfl)).1, (hB _ _ (h 4 _ rfl)).1⟩

theorem markIncidentS_zero (a : Option Addr) (cap : Nat) (k : Int) (w : World) : Calls Try.prog 23 #[.slice a 0 cap, .int .i64 k] w fun e w' => e = .returned (.int .i64 k) ∧ w = w' := by
  go_enter Try.func23, Try.ntmps23
  go_wp2
  go_loopw [1, 5] (fun s i wr => i = .int .i64 0 ∧ s = .int .i64 k ∧ w = wr) (fun s i _ => 0)
  case atStart => exact ⟨rfl, rfl, rfl⟩
  case round =>
    obtain ⟨rfl, rfl, rfl⟩ := hrel
    go_wp2
    go_ret
    exact ⟨rfl, rfl⟩
/-- A row of incidents of a call's own. -/
def OwnI (w : World) (base : Nat) (v : Value) (xs : List I5) : Prop := w.ownsRow base 67 5 v xs.length (cellsI xs)
theorem OwnI.ext {w w' : World} {base : Nat} {v : Value} {xs : List I5} (h : OwnI w base v xs) (k : Ext w w') : OwnI w' base v xs := row_ext h k
theorem OwnI.chg {w w' : World} {base B : Nat} {v : Value} {xs : List I5} (h : OwnI w base v xs) (k : Chg B w w') (hB : v.ownBlock ≠ some B) : OwnI w' base v xs :=
  World.ownsRow.kept h (row := some B) ⟨k.os, k.tape, k.output, k.size, fun i hi hne => k.block i hi (fun e => hne (by rw [e]))⟩ (.inr hB)
theorem OwnI.mono {w : World} {base b2 : Nat} {v : Value} {xs : List I5} (h : OwnI w base v xs) (hb : b2 ≤ base) : OwnI w b2 v xs := row_mono h hb
theorem OwnI.nil (w : World) (base : Nat) : OwnI w base (.slice none 0 0) [] := World.ownsRow_nil w base _ 5
theorem OwnI.snoc {w : World} {base : Nat} {v : Value} {xs : List I5} {x : I5} (h : w.ownsRow base 67 5 v (xs.length + 1) (cellsI xs ++ x.cells)) : OwnI w base v (xs ++ [x]) := by
  unfold OwnI; rw [← cellsI_app, List.length_append]; exact h
theorem OwnI.block {w : World} {base : Nat} {v : Value} {xs : List I5} (h : OwnI w base v xs) {B : Nat} (hB : B < base) : v.ownBlock ≠ some B := fun e => by have := (World.ownsRow.lt h B e).1; omega
theorem OwnI.cases {w : World} {base : Nat} {v : Value} {xs : List I5} (h : OwnI w base v xs) :
    (v = .slice none 0 0 ∧ xs = []) ∨ ∃ g cap, v = .slice (some ⟨g, 0, none⟩) xs.length cap ∧ xs.length ≤ cap ∧ base ≤ g ∧ Box w g (cellsI xs) ∧ v.ownBlock = some g := by
  have h0 := h
  rcases h.2 with ⟨hv, hn⟩ | ⟨g, cap, cur, hv, hb, hg, hc, hm, hs, ht⟩
  · exact .inl ⟨hv, List.length_eq_zero_iff.1 hn⟩
  · rw [hv] at h0
    refine .inr ⟨g, cap, hv, hc, hb, fun j u hj => ?_, by rw [hv]; rfl⟩
    have := (List.getElem?_eq_some_iff.1 hj).1
    rw [cellsI_len] at this
    exact ⟨by rw [World.ownsRow.cellAt h0 j this]; exact hj, World.ownsRow.frozenAt h0 j⟩
theorem OwnI.ivs {w : World} {base : Nat} {v : Value} {xs : List I5} (h : OwnI w base v xs) (hl : xs.length ≤ maxLen) : ∃ a cap, v = .slice a xs.length cap ∧ Ivs w a xs := by
  rcases h.cases with ⟨hv, rfl⟩ | ⟨g, cap, hv, _, _, hB, _⟩
  · exact ⟨none, 0, hv, hl, .inl rfl⟩
  · exact ⟨some ⟨g, 0, none⟩, cap, hv, ivs_of hB (fun i hi => cellsI_in xs i hi) hl⟩
/-- The row of v holds the marks from k on. -/
def HeldI (w : World) (v : Value) (k : Int) (n : Nat) : Prop := (v = .slice none 0 0 ∧ n = 0) ∨ ∃ g cap M, v = .slice (some ⟨g, 0, none⟩) n cap ∧ Box w g M ∧ ∀ m, m < n → IIn M (m * 5) (mkI k m)
theorem HeldI.ext {w w' : World} {v : Value} {k : Int} {n : Nat} (h : HeldI w v k n) (x : Ext w w') : HeldI w' v k n := by
  rcases h with h | ⟨g, cap, M, e, h, hd⟩
  · exact .inl h
  · exact .inr ⟨g, cap, M, e, h.ext x, hd⟩
theorem markOwnI_any (base : Nat) (v : Value) (xs : List I5) (k : Int) (w : World) (h : OwnI w base v xs) (hn : xs.length ≤ 1048576) (k0 : 0 ≤ k) (k1 : k ≤ 1000) :
    Calls Try.prog 23 #[v, .int .i64 k] w fun e w' => e = .returned (.int .i64 (k + 5 * xs.length)) ∧ HeldI w' v k xs.length ∧ ChgV v base w w' := by
  rcases h.cases with ⟨rfl, rfl⟩ | ⟨g, cap, rfl, _, hb, hB, ho⟩
  · exact (markIncidentS_zero _ _ k w).mono fun e w' ⟨he, hx⟩ => ⟨by simpa using he, .inl ⟨rfl, rfl⟩, .inl (hx ▸ Ext.refl w)⟩
  · exact (markIncidentS_any g cap _ k _ w (cellsI_len xs) hB hn k0 k1).mono fun e w' ⟨he, ⟨M, _, hM, hd⟩, hc⟩ => ⟨he, .inr ⟨g, cap, M, rfl, hM, hd⟩, .inr ⟨g, hb, ho, hc⟩⟩
end Go.Proofs.Ytknelhceaoblhaa.Iv
