/- WindwardBoat of both. -/
import Derived.Test.YtkodmdfcppnfoaaWnd2
import Derived.Test.YtkodmdfcppnfoaaPps
namespace Go.Proofs.Ytkodmdfcppnfoaa.Wnd
open Go.ChangeShapes Go.WideShapes Go.ChangeAt Go.RowKit
open Go.Proofs.Ytkodmdfcppnfoaa.Num Go.Proofs.Ytkodmdfcppnfoaa.Kit Go.Proofs.Ytkodmdfcppnfoaa.Pts Go.Proofs.Ytkodmdfcppnfoaa.Seg Go.Proofs.Ytkodmdfcppnfoaa.Gcd
open Go.Proofs.Ytkodmdfcppnfoaa.Mnv (M2 Mxs px PAt)
set_option linter.unusedVariables false
set_option linter.unusedSimpArgs false

/-- Are the first points valid? -/
def psB (ps : List M2) : Bool := (List.range ps.length).all fun i => ptB (px ps i).x (px ps i).y
theorem psB_no {ps : List M2} {j : Nat} (hj : j < ps.length) (h : ptB (px ps j).x (px ps j).y = false) : psB ps = false :=
  List.all_eq_false.2 ⟨j, by simpa using hj, by simp [h]⟩
theorem psB_all {ps : List M2} (h : ∀ j, j < ps.length → ptB (px ps j).x (px ps j).y = true) : psB ps = true :=
  List.all_eq_true.2 fun j hj => h j (by simpa using hj)
theorem psB_yes {ps : List M2} (h : psB ps = true) {j : Nat} (hj : j < ps.length) : ptB (px ps j).x (px ps j).y = true := List.all_eq_true.1 h j (by simpa using hj)
/-- How far a point lies to leeward. -/
def dwN (x y : Int) (p : M2) : Int := p.x * x + p.y * y
/-- The boat farthest to windward of the first n. -/
def bsN (x y : Int) (ps : List M2) : Nat → Nat
  | 0 => 0
  | n + 1 => if dwN x y (px ps n) < dwN x y (px ps (bsN x y ps n)) then n else bsN x y ps n
theorem bs_yes {x y : Int} {ps : List M2} {n : Nat} (h : dwN x y (px ps n) < dwN x y (px ps (bsN x y ps n))) : bsN x y ps (n + 1) = n := if_pos h
theorem bs_no {x y : Int} {ps : List M2} {n : Nat} (h : ¬ dwN x y (px ps n) < dwN x y (px ps (bsN x y ps n))) : bsN x y ps (n + 1) = bsN x y ps n := if_neg h
theorem bs_one (x y : Int) (ps : List M2) : bsN x y ps 1 = 0 := by unfold bsN; split <;> rfl
theorem bs_lt (x y : Int) (ps : List M2) : ∀ n, 0 < n → bsN x y ps n < n
  | 0, h => absurd h (by omega)
  | n + 1, _ => by
    unfold bsN
    split
    · omega
    · rcases Nat.eq_zero_or_pos n with h | h
      · subst h; simp [bsN]
      · have := bs_lt x y ps n h; omega
theorem bs_le (x y : Int) (ps : List M2) : ∀ n i, i < n → dwN x y (px ps (bsN x y ps n)) ≤ dwN x y (px ps i)
  | 0, i, h => absurd h (by omega)
  | n + 1, i, h => by
    by_cases hd : dwN x y (px ps n) < dwN x y (px ps (bsN x y ps n))
    · rw [bs_yes hd]
      rcases Nat.lt_or_ge i n with g | g
      · have := bs_le x y ps n i g; omega
      · obtain rfl : i = n := by omega
        omega
    · rw [bs_no hd]
      rcases Nat.lt_or_ge i n with g | g
      · exact bs_le x y ps n i g
      · obtain rfl : i = n := by omega
        omega
/-- The answers of WindwardBoat. -/
def wbC (x y : Int) (ps : List M2) : Int := if 16 < ps.length then 3 else if wdB x y = true ∧ psB ps = true then (if ps.length = 0 then 4 else 0) else 1
def wbV (x y : Int) (ps : List M2) : Int := if wbC x y ps = 0 then (bsN x y ps ps.length : Int) else 0
theorem wb_many {x y : Int} {ps : List M2} (h : 16 < ps.length) : wbC x y ps = 3 ∧ wbV x y ps = 0 := by
  have e : wbC x y ps = 3 := if_pos h
  exact ⟨e, by unfold wbV; rw [e]; rfl⟩
theorem wb_bad {x y : Int} {ps : List M2} (h : ¬ 16 < ps.length) (g : ¬ (wdB x y = true ∧ psB ps = true)) : wbC x y ps = 1 ∧ wbV x y ps = 0 := by
  have e : wbC x y ps = 1 := (if_neg h).trans (if_neg g)
  exact ⟨e, by unfold wbV; rw [e]; rfl⟩
theorem wb_none {x y : Int} {ps : List M2} (g : wdB x y = true ∧ psB ps = true) (h : ps.length = 0) : wbC x y ps = 4 ∧ wbV x y ps = 0 := by
  have e : wbC x y ps = 4 := (if_neg (by omega)).trans ((if_pos g).trans (if_pos h))
  exact ⟨e, by unfold wbV; rw [e]; rfl⟩
theorem wb_some {x y : Int} {ps : List M2} (h : ¬ 16 < ps.length) (g : wdB x y = true ∧ psB ps = true) (q : ps.length ≠ 0) : wbC x y ps = 0 ∧ wbV x y ps = bsN x y ps ps.length := by
  have e : wbC x y ps = 0 := (if_neg h).trans ((if_pos g).trans (if_neg q))
  exact ⟨e, by unfold wbV; rw [e]; rfl⟩

theorem badPt_any (u v : Int) (w : World) : Calls Try.prog 74 #[Pt u v] w fun e w' => e = .returned (.bool (!ptB u v)) ∧ Ext w w' := by
  go_enter Try.func74, Try.ntmps74
  go_wp2_with (go_at_call 61; refine (isValid_any _ _ _).mono ?_; rintro e w1 ⟨rfl, hx⟩)
  go_ret
  exact ⟨rfl, (by repeat (first | exact Ext.refl _ | assumption | apply Ext.alloc | apply Ext.drew | (refine Ext.trans ?_ (by assumption)) | (refine Ext.setNew ?_ (by simp <;> omega) _)))⟩

def RelIx (w : World) (ps : List M2) (i : Value) (wr : World) : Prop := ∃ k : Nat, i = .int .i64 k ∧ k ≤ ps.length ∧ (∀ j, j < k → ptB (px ps j).x (px ps j).y = true) ∧ Ext w wr

set_option maxHeartbeats 1000000 in
theorem indexPt_any (a : Option Addr) (cap : Nat) (ps : List M2) (w : World) (hf : Mxs w a ps) :
    Calls Try.prog 109 #[.slice a ps.length cap, .func (.func 74) #[] #[]] w fun e w' => ∃ r : Int, e = .returned (.int .i64 r) ∧ ((psB ps = true ∧ r = -1) ∨ (psB ps = false ∧ 0 ≤ r)) ∧ Ext w w' := by
  have hm := hf.1
  unfold maxLen at hm
  have HF := Lib.hid hf
  clear hf
  go_enter Try.func109, Try.ntmps109
  go_wp2
  go_loopw [8] (fun i wr => RelIx w ps i wr) (fun i _ => ps.length - (intOf i).toNat)
  case atStart => exact ⟨0, rfl, Nat.zero_le _, fun j hj => absurd hj (by omega), Ext.refl _⟩
  case round =>
    obtain ⟨j, rfl, hj, hd, hx⟩ := hrel
    have HD := Lib.hid hd
    have HX := Lib.hid hx
    clear hd hx
    by_cases hj1 : j < ps.length
    · obtain ⟨b, off, rfl, hb⟩ := HF.out.row (by omega)
      obtain ⟨c0, c1⟩ := (hb j hj1).ext HX.out
      have i0 : (0 : Int) ≤ (j : Int) := by omega
      have i1 : (j : Int) < (ps.length : Int) := by omega
      have T7 : IntKind.i64.wrap ((j : Int) + 1) = (j : Int) + 1 := IntWalk.i64_in _ (by omega)
      have hc := badPt_any (px ps j).x (px ps j).y wr
      clear hb
      cases h : ptB (px ps j).x (px ps j).y
      · have H := Lib.hid (psB_no hj1 h)
        rw [h] at hc
        clear h
        go_wp2_with (go_at_call 74; refine hc.mono ?_; rintro e w1 ⟨rfl, hy⟩)
        go_ret
        exact ⟨_, rfl, .inr ⟨H.out, by omega⟩, HX.out.trans hy⟩
      · have H := Lib.hid h
        rw [h] at hc
        clear h
        go_wp2_with (go_at_call 74; refine hc.mono ?_; rintro e w1 ⟨rfl, hy⟩)
        have HY := Lib.hid (HX.out.trans hy)
        clear hy
        go_roundw
        case rel => exact ⟨j + 1, by go_num, by omega, fun x hx => by rcases Nat.lt_or_ge x j with g | g; exact HD.out x g; exact (show x = j by omega) ▸ H.out, HY.out⟩
        case measure => simp [intOf]; omega
    · obtain rfl : j = ps.length := by omega
      have H := Lib.hid (psB_all HD.out)
      go_wp2
      go_ret
      exact ⟨_, rfl, .inl ⟨H.out, rfl⟩, HX.out⟩

theorem containsPt_any (a : Option Addr) (cap : Nat) (ps : List M2) (w : World) (hf : Mxs w a ps) :
    Calls Try.prog 73 #[.slice a ps.length cap, .func (.func 74) #[] #[]] w fun e w' => e = .returned (.bool (!psB ps)) ∧ Ext w w' := by
  have KI := Lib.hid (indexPt_any a cap ps w hf)
  clear hf
  obtain ⟨B, hB⟩ : ∃ B, B = psB ps := ⟨_, rfl⟩
  rw [← hB] at KI ⊢
  clear hB
  cases B
  · go_enter Try.func73, Try.ntmps73
    go_wp2_with fail
    refine KI.out.mono ?_
    rintro e w1 ⟨r, rfl, hr, hx⟩
    have hr2 : 0 ≤ r := by rcases hr with ⟨h, _⟩ | ⟨_, h⟩; cases h; exact h
    have q : decide (r ≥ 0) = true := decide_eq_true (by omega)
    clear hr
    go_wp2
    go_ret
    exact ⟨rfl, hx⟩
  · go_enter Try.func73, Try.ntmps73
    go_wp2_with fail
    refine KI.out.mono ?_
    rintro e w1 ⟨r, rfl, hr, hx⟩
    obtain rfl : r = -1 := by rcases hr with ⟨_, h⟩ | ⟨h, _⟩; exact h; cases h
    clear hr
    go_wp2
    go_ret
    exact ⟨rfl, hx⟩

def RelWb (W : World) (x y : Int) (ps : List M2) (f i : Value) (wr : World) : Prop :=
  ∃ j : Nat, i = .int .i64 j ∧ j ≤ ps.length ∧ f = .int .i64 (bsN x y ps j) ∧ Ext W wr

set_option maxRecDepth 100000 in
set_option maxHeartbeats 4000000 in
theorem boat_impl (x y : Int) (a : Option Addr) (cap : Nat) (ps : List M2) (w : World) (hf : Mxs w a ps) :
    Calls Try.prog 27 #[Pt x y, .slice a ps.length cap] w fun e w' => e = .returned (.tuple #[.int .i64 (wbV x y ps), .int .i64 (wbC x y ps)]) ∧ Ext w w' := by
  have hm := hf.1
  unfold maxLen at hm
  have HF := Lib.hid hf
  clear hf
  by_cases h16 : 16 < ps.length
  · have HW := Lib.hid (wb_many (x := x) (y := y) h16)
    have q : decide ((ps.length : Int) > 16) = true := decide_eq_true (by omega)
    have q2 : (16 : Int) < (ps.length : Int) := by omega
    go_enter Try.func27, Try.ntmps27
    go_wp2
    go_ret2
    exact ⟨ret_int2 HW.out.2 HW.out.1, (by repeat (first | exact Ext.refl _ | assumption | apply Ext.alloc | apply Ext.drew | (refine Ext.trans ?_ (by assumption)) | (refine Ext.setNew ?_ (by simp <;> omega) _)))⟩
  have q : decide ((ps.length : Int) > 16) = false := decide_eq_false (by omega)
  have q2 : ¬ (16 : Int) < (ps.length : Int) := by omega
  obtain ⟨W0, hW0⟩ : ∃ W0, W0 = w.alloc (.cells #[.int .i64 x, .int .i64 y] 25) := ⟨_, rfl⟩
  have hX : Ext w W0 := hW0 ▸ ((Ext.refl w).alloc _)
  have hs0 : W0.heap.size = w.heap.size + 1 := by rw [hW0]; simp
  have e00 : ∀ w', (Ext W0) w' → w'.cell? ⟨w.heap.size, 0, none⟩ = some (.int .i64 x) := fun w' h => h.cellOf (by rw [hW0]; exact boxed 0 rfl (by simp))
  have e01 : ∀ w', (Ext W0) w' → w'.cell? ⟨w.heap.size, 1, none⟩ = some (.int .i64 y) := fun w' h => h.cellOf (by rw [hW0]; exact boxed 1 rfl (by simp))
  have q00 := e00 W0 (Ext.refl W0)
  have q01 := e01 W0 (Ext.refl W0)
  go_enter Try.func27, Try.ntmps27
  go_wp2_with fail
  refine (windValid_any _ _ _).mono ?_
  rintro e w1 ⟨rfl, hz⟩
  rw [← hW0] at hz
  clear hW0 q00 q01
  replace hz : Ext W0 w1 := hz
  cases h1 : wdB x y
  · have HW := Lib.hid (wb_bad (x := x) (y := y) h16 (fun h => by rw [h1] at h; cases h.1))
    go_wp2
    go_ret2
    exact ⟨ret_int2 HW.out.2 HW.out.1, hX.trans hz⟩
  go_wp2_with fail
  refine (containsPt_any _ _ _ _ (HF.out.ext (hX.trans hz))).mono ?_
  rintro e w2 ⟨rfl, hy⟩
  replace hz := hz.trans hy
  clear hy
  cases h2 : psB ps
  · have HW := Lib.hid (wb_bad (x := x) (y := y) h16 (fun h => by rw [h2] at h; cases h.2))
    go_wp2
    go_ret2
    exact ⟨ret_int2 HW.out.2 HW.out.1, hX.trans hz⟩
  by_cases h0 : ps.length = 0
  · have HW := Lib.hid (wb_none ⟨h1, h2⟩ h0)
    have q3 : ((ps.length : Int) == 0) = true := by simp [h0]
    rw [h0]
    go_wp2
    go_ret2
    exact ⟨ret_int2 HW.out.2 HW.out.1, hX.trans hz⟩
  have HW := Lib.hid (wb_some h16 ⟨h1, h2⟩ h0)
  have q3 : ((ps.length : Int) == 0) = false := by simpa using h0
  have q4 : ¬ ps.length = 0 := h0
  have HV := Lib.hid (fun j (hj : j < ps.length) => ptB_yes (psB_yes h2 hj))
  have AW := Lib.hid (wdB_yes h1)
  obtain ⟨b, off, rfl, hb⟩ := HF.out.row (by omega)
  have HB := Lib.hid (fun w' (h : Ext w w') j (hj : j < ps.length) => (hb j hj).ext h)
  clear hb h1 h2 q q2
  have HZ := Lib.hid hz
  clear hz
  go_wp2
  go_loopw [6, 24] (fun f i wr => RelWb w2 x y ps f i wr) (fun f i _ => ps.length - (intOf i).toNat)
  case atStart => exact ⟨0, rfl, Nat.zero_le _, rfl, Ext.refl _⟩
  case round =>
    obtain ⟨j, rfl, hj, rfl, hx⟩ := hrel
    have HX := Lib.hid hx
    clear hx
    by_cases hj1 : j < ps.length
    · have hB : bsN x y ps j < ps.length := by
        rcases Nat.eq_zero_or_pos j with h | h
        · subst h; exact hj1
        · have := bs_lt x y ps j h; omega
      obtain ⟨c0, c1⟩ := HB.out wr (hX.trans (HZ.out.trans HX.out)) j hj1
      obtain ⟨vx, vy⟩ := HV.out j hj1
      obtain ⟨ux, uy⟩ := HV.out _ hB
      obtain ⟨wx, wy, _⟩ := AW.out
      have PA := Lib.hid (fun w => along_any x y (px ps j).x (px ps j).y w wx wy (by omega) (by omega))
      have PB := Lib.hid (fun w => along_any x y (px ps (bsN x y ps j)).x (px ps (bsN x y ps j)).y w wx wy (by omega) (by omega))
      have hcase := Decidable.em (dwN x y (px ps j) < dwN x y (px ps (bsN x y ps j)))
      have HS := Lib.hid (fun h => bs_yes (x := x) (y := y) (ps := ps) (n := j) h)
      have HN := Lib.hid (fun h => bs_no (x := x) (y := y) (ps := ps) (n := j) h)
      have T7 : IntKind.i64.wrap ((j : Int) + 1) = (j : Int) + 1 := IntWalk.i64_in _ (by omega)
      have i0 : (0 : Int) ≤ (j : Int) := by omega
      have i1 : (j : Int) < (ps.length : Int) := by omega
      have HBN := Lib.hid (show ∃ BN, BN = bsN x y ps j from ⟨_, rfl⟩)
      clear HBN
      generalize bsN x y ps j = BN at *
      have k0 : (0 : Int) ≤ (BN : Int) := by omega
      have k1 : (BN : Int) < (ps.length : Int) := by omega
      obtain ⟨d0, d1⟩ := HB.out wr (hX.trans (HZ.out.trans HX.out)) BN hB
      unfold dwN at hcase HS HN
      clear vx vy ux uy wx wy
      generalize (px ps BN).x = u at *
      generalize (px ps BN).y = v at *
      generalize (px ps j).x = p at *
      generalize (px ps j).y = q at *
      obtain ⟨W5, hW5⟩ : ∃ W5, W5 = wr.alloc (.cells #[.int .i64 p, .int .i64 q] 26) := ⟨_, rfl⟩
      have hx5 : Ext wr W5 := hW5 ▸ ((Ext.refl wr).alloc _)
      have v0 : ∀ w', Ext W5 w' → w'.cell? ⟨wr.heap.size, 0, none⟩ = some (.int .i64 p) := fun w' h => h.cellOf (hW5 ▸ boxed 0 rfl rfl)
      have v1 : ∀ w', Ext W5 w' → w'.cell? ⟨wr.heap.size, 1, none⟩ = some (.int .i64 q) := fun w' h => h.cellOf (hW5 ▸ boxed 1 rfl rfl)
      have f0 : ∀ w', Ext W5 w' → w'.cell? ⟨b, off + BN * 2, none⟩ = some (.int .i64 u) := fun w' h => (hx5.trans h).cellOf d0
      have f1 : ∀ w', Ext W5 w' → w'.cell? ⟨b, off + BN * 2 + 1, none⟩ = some (.int .i64 v) := fun w' h => (hx5.trans h).cellOf d1
      have g00 : ∀ w', Ext W5 w' → w'.cell? ⟨w.heap.size, 0, none⟩ = some (.int .i64 x) := fun w' h => e00 w' (HZ.out.trans (HX.out.trans (hx5.trans h)))
      have g01 : ∀ w', Ext W5 w' → w'.cell? ⟨w.heap.size, 1, none⟩ = some (.int .i64 y) := fun w' h => e01 w' (HZ.out.trans (HX.out.trans (hx5.trans h)))
      have hr := Ext.refl W5
      clear d0 d1
      go_upto_region 11 with fail
      rw [← hW5]
      clear hW5 c0 c1
      refine wp_region_held_drew (S := (fun w' => Ext W5 w')) (by kernel_rfl) (by (try dsimp only); first | go_keep | exact (Ext.refl _).drew | exact Res.new2.drew | exact Res.new4.drew | exact ResB.drew (by assumption) | exact ResC.drew (by assumption) | assumption | exact Ext.drew (by assumption) | exact Res.drew (by assumption)) (fun hHeld => ?_)
      (refine Ord.k 0 29 (v := ?_) ?_ ?_; rotate_left; (intro w h; (try dsimp only at h); go_simp; (try with_reducible rfl)); (try simp only [Act.put, Ord.a, Ord.b, Ord.c]))
      (refine Ord.k 1 30 (v := ?_) ?_ ?_; rotate_left; (intro w h; (try dsimp only at h); go_simp; (try with_reducible rfl)); (try simp only [Act.put, Ord.a, Ord.b, Ord.c]))
      (refine Ord.k 3 32 (v := ?_) ?_ ?_; rotate_left; (intro w h; (try dsimp only at h); go_simp; (try with_reducible rfl)); (try simp only [Act.put, Ord.a, Ord.b, Ord.c]))
      (refine Ord.k 4 33 (v := ?_) ?_ ?_; rotate_left; (intro w h; (try dsimp only at h); go_simp; (try with_reducible rfl)); (try simp only [Act.put, Ord.a, Ord.b, Ord.c]))
      (refine Ord.k 5 34 (v := ?_) ?_ ?_; rotate_left; (intro w h; (try dsimp only at h); go_simp; (try with_reducible rfl)); (try simp only [Act.put, Ord.a, Ord.b, Ord.c]))
      (refine Ord.k 6 35 (v := ?_) ?_ ?_; rotate_left; (intro w h; (try dsimp only at h); go_simp; (try with_reducible rfl)); (try simp only [Act.put, Ord.a, Ord.b, Ord.c]))
      (refine Ord.k 7 36 (v := ?_) ?_ ?_; rotate_left; (intro w h; (try dsimp only at h); go_simp; (try with_reducible rfl)); (try simp only [Act.put, Ord.a, Ord.b, Ord.c]))
      (refine wpAnyH_ready (rs := [2]) (by kernel_rfl) (by simp) ?_; refine AllReadyH.cons rfl (fun K hK => ?_) AllReadyH.nil; go_simp; (first | (go_at_call 63; with_reducible refine (PA.out _).mono ?_; rintro e w6 ⟨rfl, hy⟩) | (go_at_call 63; with_reducible refine (PB.out _).mono ?_; rintro e w6 ⟨rfl, hy⟩)); go_wp2_with fail; (refine hK.out _ _ (by first | assumption | exact Ext.trans (by assumption) hy | exact Res.ext (by assumption) hy | exact ResB.ext (by assumption) hy | exact ResC.ext (by assumption) hy | (go_split_ands; (repeat' apply And.intro) <;> exact Ext.cellOf hy (by assumption))) (fun hHeld => ?_)); clear hK K; (try simp only [Act.put, Ord.a, Ord.b, Ord.c]))
      (refine wpAnyH_ready (rs := [8]) (by kernel_rfl) (by simp) ?_; refine AllReadyH.cons rfl (fun K hK => ?_) AllReadyH.nil; go_simp; (first | (go_at_call 63; with_reducible refine (PA.out _).mono ?_; rintro e w6 ⟨rfl, hy⟩) | (go_at_call 63; with_reducible refine (PB.out _).mono ?_; rintro e w6 ⟨rfl, hy⟩)); go_wp2_with fail; (refine hK.out _ _ (by first | assumption | exact Ext.trans (by assumption) hy | exact Res.ext (by assumption) hy | exact ResB.ext (by assumption) hy | exact ResC.ext (by assumption) hy | (go_split_ands; (repeat' apply And.intro) <;> exact Ext.cellOf hy (by assumption))) (fun hHeld => ?_)); clear hK K; (try simp only [Act.put, Ord.a, Ord.b, Ord.c]))
      (refine Ord.k 9 38 (v := ?_) ?_ ?_; rotate_left; (intro w h; (try dsimp only at h); go_simp; (try with_reducible rfl)); (try simp only [Act.put, Ord.a, Ord.b, Ord.c]))
      refine wpAnyH_done (by kernel_rfl) ?_ _
      have HH := Lib.hid (HX.out.trans (hx5.trans hHeld))
      clear hHeld
      rcases hcase with h | h
      · have HE := Lib.hid (HS.out h)
        go_wp2
        go_roundw
        case rel => exact ⟨j + 1, by go_num, by omega, by rw [HE.out], HH.out⟩
        case measure => simp [intOf]; omega
      · have HE := Lib.hid (HN.out h)
        go_wp2
        go_roundw
        case rel => exact ⟨j + 1, by go_num, by omega, by rw [HE.out], HH.out⟩
        case measure => simp [intOf]; omega
    · obtain rfl : j = ps.length := by omega
      go_wp2
      go_ret2
      exact ⟨ret_int2 HW.out.2 HW.out.1, hX.trans (HZ.out.trans HX.out)⟩

def RelPv (W : World) (ps : List M2) (i : Value) (wr : World) : Prop := ∃ k : Nat, i = .int .i64 k ∧ k ≤ ps.length ∧ (∀ j, j < k → ptB (px ps j).x (px ps j).y = true) ∧ Ext W wr
def RelWs (W : World) (x y : Int) (ps : List M2) (f i : Value) (wr : World) : Prop :=
  ∃ j : Nat, i = .int .i64 j ∧ 1 ≤ j ∧ j ≤ ps.length ∧ f = .int .i64 (bsN x y ps j) ∧ Ext W wr

set_option maxRecDepth 100000 in
set_option maxHeartbeats 4000000 in
theorem boat_spec (x y : Int) (a : Option Addr) (cap : Nat) (ps : List M2) (w : World) (hf : Mxs w a ps) :
    Calls Try.prog 28 #[Pt x y, .slice a ps.length cap] w fun e w' => e = .returned (.tuple #[.int .i64 (wbV x y ps), .int .i64 (wbC x y ps)]) ∧ Ext w w' := by
  have hm := hf.1
  unfold maxLen at hm
  have HF := Lib.hid hf
  clear hf
  by_cases h16 : 16 < ps.length
  · have HW := Lib.hid (wb_many (x := x) (y := y) h16)
    have q : decide ((ps.length : Int) > 16) = true := decide_eq_true (by omega)
    have q2 : (16 : Int) < (ps.length : Int) := by omega
    go_enter Try.func28, Try.ntmps28
    go_wp2
    go_ret2
    exact ⟨ret_int2 HW.out.2 HW.out.1, (by repeat (first | exact Ext.refl _ | assumption | apply Ext.alloc | apply Ext.drew | (refine Ext.trans ?_ (by assumption)) | (refine Ext.setNew ?_ (by simp <;> omega) _)))⟩
  have q : decide ((ps.length : Int) > 16) = false := decide_eq_false (by omega)
  have q2 : ¬ (16 : Int) < (ps.length : Int) := by omega
  obtain ⟨W0, hW0⟩ : ∃ W0, W0 = w.alloc (.cells #[.int .i64 x, .int .i64 y] 25) := ⟨_, rfl⟩
  have hX : Ext w W0 := hW0 ▸ ((Ext.refl w).alloc _)
  have hs0 : W0.heap.size = w.heap.size + 1 := by rw [hW0]; simp
  have e00 : ∀ w', (Ext W0) w' → w'.cell? ⟨w.heap.size, 0, none⟩ = some (.int .i64 x) := fun w' h => h.cellOf (by rw [hW0]; exact boxed 0 rfl (by simp))
  have e01 : ∀ w', (Ext W0) w' → w'.cell? ⟨w.heap.size, 1, none⟩ = some (.int .i64 y) := fun w' h => h.cellOf (by rw [hW0]; exact boxed 1 rfl (by simp))
  have q00 := e00 W0 (Ext.refl W0)
  have q01 := e01 W0 (Ext.refl W0)
  go_enter Try.func28, Try.ntmps28
  go_wp2_with fail
  refine (isWind_spec _ _ _).mono ?_
  rintro e w1 ⟨rfl, hz⟩
  rw [← hW0] at hz
  clear hW0 q00 q01
  replace hz : Ext W0 w1 := hz
  cases h1 : wdB x y
  · have HW := Lib.hid (wb_bad (x := x) (y := y) h16 (fun h => by rw [h1] at h; cases h.1))
    go_wp2
    go_ret2
    exact ⟨ret_int2 HW.out.2 HW.out.1, hX.trans hz⟩
  have HZ := Lib.hid hz
  have H1 := Lib.hid h1
  have H16 := Lib.hid h16
  clear hz h1 q q2 h16
  go_wp2
  go_loopw [6] (fun i wr => RelPv w1 ps i wr) (fun i _ => ps.length - (intOf i).toNat)
  case atStart => exact ⟨0, rfl, Nat.zero_le _, fun j hj => absurd hj (by omega), Ext.refl _⟩
  case round =>
    obtain ⟨j, rfl, hj, hd, hx⟩ := hrel
    have HD := Lib.hid hd
    have HX := Lib.hid hx
    clear hd hx
    by_cases hj1 : j < ps.length
    · obtain ⟨b, off, rfl, hb⟩ := HF.out.row (by omega)
      obtain ⟨c0, c1⟩ := (hb j hj1).ext (hX.trans (HZ.out.trans HX.out))
      have i0 : (0 : Int) ≤ (j : Int) := by omega
      have i1 : (j : Int) < (ps.length : Int) := by omega
      have T7 : IntKind.i64.wrap ((j : Int) + 1) = (j : Int) + 1 := IntWalk.i64_in _ (by omega)
      have hc := isPoint_spec (px ps j).x (px ps j).y wr
      clear hb
      cases h : ptB (px ps j).x (px ps j).y
      · have HW := Lib.hid (wb_bad (x := x) (y := y) H16.out (fun g => by rw [psB_no hj1 h] at g; cases g.2))
        rw [h] at hc
        clear h
        go_wp2_with (go_at_call 66; refine hc.mono ?_; rintro e w2 ⟨rfl, hy⟩)
        go_ret2
        exact ⟨ret_int2 HW.out.2 HW.out.1, hX.trans (HZ.out.trans (HX.out.trans hy))⟩
      · have H := Lib.hid h
        rw [h] at hc
        clear h
        go_wp2_with (go_at_call 66; refine hc.mono ?_; rintro e w2 ⟨rfl, hy⟩)
        have HY := Lib.hid (HX.out.trans hy)
        clear hy
        go_roundw
        case rel => exact ⟨j + 1, by go_num, by omega, fun x hx => by rcases Nat.lt_or_ge x j with g | g; exact HD.out x g; exact (show x = j by omega) ▸ H.out, HY.out⟩
        case measure => simp [intOf]; omega
    · obtain rfl : j = ps.length := by omega
      have H2 := Lib.hid (psB_all HD.out)
      have HZ2 := Lib.hid (HZ.out.trans HX.out)
      by_cases h0 : ps.length = 0
      · have HW := Lib.hid (wb_none ⟨H1.out, H2.out⟩ h0)
        have q3 : ((ps.length : Int) == 0) = true := by simp [h0]
        rw [h0]
        go_wp2
        go_ret2
        exact ⟨ret_int2 HW.out.2 HW.out.1, hX.trans HZ2.out⟩
      have HW := Lib.hid (wb_some H16.out ⟨H1.out, H2.out⟩ h0)
      have q3 : ((ps.length : Int) == 0) = false := by simpa using h0
      have HV := Lib.hid (fun j (hj : j < ps.length) => ptB_yes (psB_yes H2.out hj))
      have AW := Lib.hid (wdB_yes H1.out)
      obtain ⟨b, off, rfl, hb⟩ := HF.out.row (by omega)
      have HB := Lib.hid (fun w' (h : Ext w w') j (hj : j < ps.length) => (hb j hj).ext h)
      clear hb
      obtain ⟨w3, rfl⟩ : ∃ w3 : World, w3 = wr := ⟨_, rfl⟩
      go_wp2
      go_loopw [7, 8] (fun f i wz => RelWs w3 x y ps f i wz) (fun f i _ => ps.length - (intOf i).toNat)
      case atStart => exact ⟨1, rfl, Nat.le_refl _, by omega, by rw [bs_one]; rfl, Ext.refl _⟩
      case round =>
        obtain ⟨j, rfl, hj0, hj, rfl, hx⟩ := hrel
        have HX := Lib.hid hx
        clear hx
        by_cases hj1 : j < ps.length
        · have hB : bsN x y ps j < ps.length := by have := bs_lt x y ps j (by omega); omega
          obtain ⟨c0, c1⟩ := HB.out wr (hX.trans (HZ2.out.trans HX.out)) j hj1
          obtain ⟨vx, vy⟩ := HV.out j hj1
          obtain ⟨ux, uy⟩ := HV.out _ hB
          obtain ⟨wx, wy, _⟩ := AW.out
          have PV := Lib.hid (fun w => vectorS_any x y w)
          have PA := Lib.hid (fun w => dot_any (px ps j).x (px ps j).y x y w (by omega) (by omega) (by omega) (by omega))
          have PB := Lib.hid (fun w => dot_any (px ps (bsN x y ps j)).x (px ps (bsN x y ps j)).y x y w (by omega) (by omega) (by omega) (by omega))
          have hcase := Decidable.em (dwN x y (px ps j) < dwN x y (px ps (bsN x y ps j)))
          have HS := Lib.hid (fun h => bs_yes (x := x) (y := y) (ps := ps) (n := j) h)
          have HN := Lib.hid (fun h => bs_no (x := x) (y := y) (ps := ps) (n := j) h)
          have T7 : IntKind.i64.wrap ((j : Int) + 1) = (j : Int) + 1 := IntWalk.i64_in _ (by omega)
          have i0 : (0 : Int) ≤ (j : Int) := by omega
          have i1 : (j : Int) < (ps.length : Int) := by omega
          generalize bsN x y ps j = BN at *
          have k0 : (0 : Int) ≤ (BN : Int) := by omega
          have k1 : (BN : Int) < (ps.length : Int) := by omega
          obtain ⟨d0, d1⟩ := HB.out wr (hX.trans (HZ2.out.trans HX.out)) BN hB
          unfold dwN at hcase HS HN
          clear vx vy ux uy wx wy
          generalize (px ps BN).x = u at *
          generalize (px ps BN).y = v at *
          generalize (px ps j).x = p at *
          generalize (px ps j).y = q at *
          have v0 : ∀ w', Ext wr w' → w'.cell? ⟨b, off + j * 2, none⟩ = some (.int .i64 p) := fun w' h => h.cellOf c0
          have v1 : ∀ w', Ext wr w' → w'.cell? ⟨b, off + j * 2 + 1, none⟩ = some (.int .i64 q) := fun w' h => h.cellOf c1
          have f0 : ∀ w', Ext wr w' → w'.cell? ⟨b, off + BN * 2, none⟩ = some (.int .i64 u) := fun w' h => h.cellOf d0
          have f1 : ∀ w', Ext wr w' → w'.cell? ⟨b, off + BN * 2 + 1, none⟩ = some (.int .i64 v) := fun w' h => h.cellOf d1
          have g00 : ∀ w', Ext wr w' → w'.cell? ⟨w.heap.size, 0, none⟩ = some (.int .i64 x) := fun w' h => e00 w' (HZ2.out.trans (HX.out.trans h))
          have g01 : ∀ w', Ext wr w' → w'.cell? ⟨w.heap.size, 1, none⟩ = some (.int .i64 y) := fun w' h => e01 w' (HZ2.out.trans (HX.out.trans h))
          have hr := Ext.refl wr
          clear d0 d1 c0 c1
          go_upto_region 16 with fail
          refine wp_region_held_drew (S := (fun w' => Ext wr w')) (by kernel_rfl) (by (try dsimp only); first | go_keep | exact (Ext.refl _).drew | exact Res.new2.drew | exact Res.new4.drew | exact ResB.drew (by assumption) | exact ResC.drew (by assumption) | assumption | exact Ext.drew (by assumption) | exact Res.drew (by assumption)) (fun hHeld => ?_)
          (refine Ord.k 0 36 (v := ?_) ?_ ?_; rotate_left; (intro w h; (try dsimp only at h); go_simp; (try with_reducible rfl)); (try simp only [Act.put, Ord.a, Ord.b, Ord.c]))
          (refine Ord.k 1 37 (v := ?_) ?_ ?_; rotate_left; (intro w h; (try dsimp only at h); go_simp; (try with_reducible rfl)); (try simp only [Act.put, Ord.a, Ord.b, Ord.c]))
          (refine Ord.k 2 38 (v := ?_) ?_ ?_; rotate_left; (intro w h; (try dsimp only at h); go_simp; (try with_reducible rfl)); (try simp only [Act.put, Ord.a, Ord.b, Ord.c]))
          (refine Ord.k 3 39 (v := ?_) ?_ ?_; rotate_left; (intro w h; (try dsimp only at h); go_simp; (try with_reducible rfl)); (try simp only [Act.put, Ord.a, Ord.b, Ord.c]))
          (refine Ord.k 4 40 (v := ?_) ?_ ?_; rotate_left; (intro w h; (try dsimp only at h); go_simp; (try with_reducible rfl)); (try simp only [Act.put, Ord.a, Ord.b, Ord.c]))
          (refine Ord.k 7 43 (v := ?_) ?_ ?_; rotate_left; (intro w h; (try dsimp only at h); go_simp; (try with_reducible rfl)); (try simp only [Act.put, Ord.a, Ord.b, Ord.c]))
          (refine Ord.k 8 44 (v := ?_) ?_ ?_; rotate_left; (intro w h; (try dsimp only at h); go_simp; (try with_reducible rfl)); (try simp only [Act.put, Ord.a, Ord.b, Ord.c]))
          (refine Ord.k 9 45 (v := ?_) ?_ ?_; rotate_left; (intro w h; (try dsimp only at h); go_simp; (try with_reducible rfl)); (try simp only [Act.put, Ord.a, Ord.b, Ord.c]))
          (refine Ord.k 10 46 (v := ?_) ?_ ?_; rotate_left; (intro w h; (try dsimp only at h); go_simp; (try with_reducible rfl)); (try simp only [Act.put, Ord.a, Ord.b, Ord.c]))
          (refine Ord.k 11 47 (v := ?_) ?_ ?_; rotate_left; (intro w h; (try dsimp only at h); go_simp; (try with_reducible rfl)); (try simp only [Act.put, Ord.a, Ord.b, Ord.c]))
          (refine wpAnyH_ready (rs := [5]) (by kernel_rfl) (by simp) ?_; refine AllReadyH.cons rfl (fun K hK => ?_) AllReadyH.nil; go_simp; (first | (go_at_call 67; refine (PV.out _).mono ?_; rintro e w6 ⟨rfl, hy⟩) | (go_at_call 69; with_reducible refine (PA.out _).mono ?_; rintro e w6 ⟨rfl, hy⟩) | (go_at_call 69; with_reducible refine (PB.out _).mono ?_; rintro e w6 ⟨rfl, hy⟩)); go_wp2_with fail; (refine hK.out _ _ (by first | assumption | exact Ext.trans (by assumption) hy | exact Res.ext (by assumption) hy | exact ResB.ext (by assumption) hy | exact ResC.ext (by assumption) hy | (go_split_ands; (repeat' apply And.intro) <;> exact Ext.cellOf hy (by assumption))) (fun hHeld => ?_)); clear hK K; (try simp only [Act.put, Ord.a, Ord.b, Ord.c]))
          (refine wpAnyH_ready (rs := [6]) (by kernel_rfl) (by simp) ?_; refine AllReadyH.cons rfl (fun K hK => ?_) AllReadyH.nil; go_simp; (first | (go_at_call 67; refine (PV.out _).mono ?_; rintro e w6 ⟨rfl, hy⟩) | (go_at_call 69; with_reducible refine (PA.out _).mono ?_; rintro e w6 ⟨rfl, hy⟩) | (go_at_call 69; with_reducible refine (PB.out _).mono ?_; rintro e w6 ⟨rfl, hy⟩)); go_wp2_with fail; (refine hK.out _ _ (by first | assumption | exact Ext.trans (by assumption) hy | exact Res.ext (by assumption) hy | exact ResB.ext (by assumption) hy | exact ResC.ext (by assumption) hy | (go_split_ands; (repeat' apply And.intro) <;> exact Ext.cellOf hy (by assumption))) (fun hHeld => ?_)); clear hK K; (try simp only [Act.put, Ord.a, Ord.b, Ord.c]))
          (refine wpAnyH_ready (rs := [12]) (by kernel_rfl) (by simp) ?_; refine AllReadyH.cons rfl (fun K hK => ?_) AllReadyH.nil; go_simp; (first | (go_at_call 67; refine (PV.out _).mono ?_; rintro e w6 ⟨rfl, hy⟩) | (go_at_call 69; with_reducible refine (PA.out _).mono ?_; rintro e w6 ⟨rfl, hy⟩) | (go_at_call 69; with_reducible refine (PB.out _).mono ?_; rintro e w6 ⟨rfl, hy⟩)); go_wp2_with fail; (refine hK.out _ _ (by first | assumption | exact Ext.trans (by assumption) hy | exact Res.ext (by assumption) hy | exact ResB.ext (by assumption) hy | exact ResC.ext (by assumption) hy | (go_split_ands; (repeat' apply And.intro) <;> exact Ext.cellOf hy (by assumption))) (fun hHeld => ?_)); clear hK K; (try simp only [Act.put, Ord.a, Ord.b, Ord.c]))
          (refine wpAnyH_ready (rs := [13]) (by kernel_rfl) (by simp) ?_; refine AllReadyH.cons rfl (fun K hK => ?_) AllReadyH.nil; go_simp; (first | (go_at_call 67; refine (PV.out _).mono ?_; rintro e w6 ⟨rfl, hy⟩) | (go_at_call 69; with_reducible refine (PA.out _).mono ?_; rintro e w6 ⟨rfl, hy⟩) | (go_at_call 69; with_reducible refine (PB.out _).mono ?_; rintro e w6 ⟨rfl, hy⟩)); go_wp2_with fail; (refine hK.out _ _ (by first | assumption | exact Ext.trans (by assumption) hy | exact Res.ext (by assumption) hy | exact ResB.ext (by assumption) hy | exact ResC.ext (by assumption) hy | (go_split_ands; (repeat' apply And.intro) <;> exact Ext.cellOf hy (by assumption))) (fun hHeld => ?_)); clear hK K; (try simp only [Act.put, Ord.a, Ord.b, Ord.c]))
          (refine Ord.k 14 50 (v := ?_) ?_ ?_; rotate_left; (intro w h; (try dsimp only at h); go_simp; (try with_reducible rfl)); (try simp only [Act.put, Ord.a, Ord.b, Ord.c]))
          refine wpAnyH_done (by kernel_rfl) ?_ _
          have HH := Lib.hid (HX.out.trans hHeld)
          clear hHeld
          rcases hcase with h | h
          · have HE := Lib.hid (HS.out h)
            go_wp2
            go_roundw
            case rel => exact ⟨j + 1, by go_num, by omega, by omega, by rw [HE.out], HH.out⟩
            case measure => simp [intOf]; omega
          · have HE := Lib.hid (HN.out h)
            go_wp2
            go_roundw
            case rel => exact ⟨j + 1, by go_num, by omega, by omega, by rw [HE.out], HH.out⟩
            case measure => simp [intOf]; omega
        · obtain rfl : j = ps.length := by omega
          go_wp2
          go_ret2
          exact ⟨ret_int2 HW.out.2 HW.out.1, hX.trans (HZ2.out.trans HX.out)⟩

end Go.Proofs.Ytkodmdfcppnfoaa.Wnd
