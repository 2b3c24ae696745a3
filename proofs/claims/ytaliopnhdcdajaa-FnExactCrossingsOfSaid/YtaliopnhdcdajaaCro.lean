/- Rows of crossings that a call made: comparing, marking, looking whether the marks are held (laws); CrossingsOf of both. -/
import Derived.Test.YtaliopnhdcdajaaItr4
import Derived.Test.YtaliopnhdcdajaaFir2
import Derived.PlainAid
namespace Go.Proofs.Ytaliopnhdcdajaa.Rwk
open Go.ChangeShapes Go.WideShapes Go.ChangeAt Go.RowKit Go.PlainAid
open Go.Proofs.Ytaliopnhdcdajaa.Num Go.Proofs.Ytaliopnhdcdajaa.Kit Go.Proofs.Ytaliopnhdcdajaa.Pts Go.Proofs.Ytaliopnhdcdajaa.Seg Go.Proofs.Ytaliopnhdcdajaa.Gcd Go.Proofs.Ytaliopnhdcdajaa.Crs Go.Proofs.Ytaliopnhdcdajaa.Trk
set_option linter.unusedVariables false
set_option linter.unusedSimpArgs false

def RelEC (w : World) (n : Nat) (i : Value) (wr : World) : Prop := ∃ k : Nat, i = .int .i64 k ∧ k ≤ n ∧ Ext w wr

set_option maxHeartbeats 1000000 in
theorem eqCrossingS_same (a b : Option Addr) (cap cap' : Nat) (cs : List C5) (w : World) (ha : Cxs w a cs) (hb : Cxs w b cs) : Calls Try.prog 14 #[.slice a cs.length cap, .slice b cs.length cap'] w fun e w' => e = .returned (.bool true) ∧ Ext w w' := by
  have hm := ha.1
  unfold maxLen at hm
  have HA := Lib.hid ha
  have HB := Lib.hid hb
  clear ha hb
  go_enter Try.func14, Try.ntmps14
  go_wp2
  go_loopw [5] (fun i wr => RelEC w cs.length i wr) (fun i _ => cs.length - (intOf i).toNat)
  case atStart => exact ⟨0, rfl, Nat.zero_le _, Ext.refl _⟩
  case round =>
    obtain ⟨k, rfl, hk, hx⟩ := hrel
    have HX := Lib.hid hx
    clear hx
    by_cases hk1 : k < cs.length
    · obtain ⟨b1, o1, rfl, h1⟩ := HA.out.row (by omega)
      obtain ⟨b2, o2, rfl, h2⟩ := HB.out.row (by omega)
      obtain ⟨c0, c1, c2, c3, c4⟩ := (h1 k hk1).ext HX.out
      obtain ⟨d0, d1, d2, d3, d4⟩ := (h2 k hk1).ext HX.out
      clear h1 h2
      have i0 : (0 : Int) ≤ (k : Int) := by omega
      have i1 : (k : Int) < (cs.length : Int) := by omega
      go_wp2_with fail
      refine wp_region_held_drew (S := (fun w' => (w'.cell? ⟨b1, o1 + k * 5, none⟩ = some (.int .i64 (cx cs k).t) ∧ w'.cell? ⟨b1, o1 + k * 5 + 1, none⟩ = some (.int .i64 (cx cs k).l) ∧ w'.cell? ⟨b1, o1 + k * 5 + 2, none⟩ = some (.int .i64 (cx cs k).g) ∧ w'.cell? ⟨b1, o1 + k * 5 + 3, none⟩ = some (.int .i64 (cx cs k).x) ∧ w'.cell? ⟨b1, o1 + k * 5 + 4, none⟩ = some (.int .i64 (cx cs k).y)) ∧ w'.cell? ⟨b2, o2 + k * 5, none⟩ = some (.int .i64 (cx cs k).t) ∧ w'.cell? ⟨b2, o2 + k * 5 + 1, none⟩ = some (.int .i64 (cx cs k).l) ∧ w'.cell? ⟨b2, o2 + k * 5 + 2, none⟩ = some (.int .i64 (cx cs k).g) ∧ w'.cell? ⟨b2, o2 + k * 5 + 3, none⟩ = some (.int .i64 (cx cs k).x) ∧ w'.cell? ⟨b2, o2 + k * 5 + 4, none⟩ = some (.int .i64 (cx cs k).y))) (by kernel_rfl) (by (try dsimp only); first | go_keep | exact (Ext.refl _).drew | exact Res.new2.drew | exact Res.new4.drew | exact ResB.drew (by assumption) | exact ResC.drew (by assumption) | assumption | exact Ext.drew (by assumption) | exact Res.drew (by assumption)) (fun hHeld => ?_)
      (refine Ord.takeH 0 17 (v := ?_) rfl rfl (by kernel_rfl) (by kernel_rfl) (by kernel_rfl) (fun _ _ _ h => h) (by rfl) ?_ (by assumption) ?_; rotate_left; (intro w hSw; (try dsimp only at hSw); go_simp; (first | done | with_reducible rfl)); (try simp only [Act.put, List.setIfInBounds_toArray, List.set_cons_zero, List.set_cons_succ]))
      (refine Ord.takeH 1 18 (v := ?_) rfl rfl (by kernel_rfl) (by kernel_rfl) (by kernel_rfl) (fun _ _ _ h => h) (by rfl) ?_ (by assumption) ?_; rotate_left; (intro w hSw; (try dsimp only at hSw); go_simp; (first | done | with_reducible rfl)); (try simp only [Act.put, List.setIfInBounds_toArray, List.set_cons_zero, List.set_cons_succ]))
      (refine Ord.takeH 2 19 (v := ?_) rfl rfl (by kernel_rfl) (by kernel_rfl) (by kernel_rfl) (fun _ _ _ h => h) (by rfl) ?_ (by assumption) ?_; rotate_left; (intro w hSw; (try dsimp only at hSw); go_simp; (first | done | with_reducible rfl)); (try simp only [Act.put, List.setIfInBounds_toArray, List.set_cons_zero, List.set_cons_succ]))
      (refine Ord.takeH 3 20 (v := ?_) rfl rfl (by kernel_rfl) (by kernel_rfl) (by kernel_rfl) (fun _ _ _ h => h) (by rfl) ?_ (by assumption) ?_; rotate_left; (intro w hSw; (try dsimp only at hSw); go_simp; (first | done | with_reducible rfl)); (try simp only [Act.put, List.setIfInBounds_toArray, List.set_cons_zero, List.set_cons_succ]))
      (refine Ord.takeH 4 21 (v := ?_) rfl rfl (by kernel_rfl) (by kernel_rfl) (by kernel_rfl) (fun _ _ _ h => h) (by rfl) ?_ (by assumption) ?_; rotate_left; (intro w hSw; (try dsimp only at hSw); go_simp; (first | done | with_reducible rfl)); (try simp only [Act.put, List.setIfInBounds_toArray, List.set_cons_zero, List.set_cons_succ]))
      (refine Ord.takeH 5 22 (v := ?_) rfl rfl (by kernel_rfl) (by kernel_rfl) (by kernel_rfl) (fun _ _ _ h => h) (by rfl) ?_ (by assumption) ?_; rotate_left; (intro w hSw; (try dsimp only at hSw); go_simp; (first | done | with_reducible rfl)); (try simp only [Act.put, List.setIfInBounds_toArray, List.set_cons_zero, List.set_cons_succ]))
      (refine Ord.takeH 6 23 (v := ?_) rfl rfl (by kernel_rfl) (by kernel_rfl) (by kernel_rfl) (fun _ _ _ h => h) (by rfl) ?_ (by assumption) ?_; rotate_left; (intro w hSw; (try dsimp only at hSw); go_simp; (first | done | with_reducible rfl)); (try simp only [Act.put, List.setIfInBounds_toArray, List.set_cons_zero, List.set_cons_succ]))
      (refine Ord.takeH 7 24 (v := ?_) rfl rfl (by kernel_rfl) (by kernel_rfl) (by kernel_rfl) (fun _ _ _ h => h) (by rfl) ?_ (by assumption) ?_; rotate_left; (intro w hSw; (try dsimp only at hSw); go_simp; (first | done | with_reducible rfl)); (try simp only [Act.put, List.setIfInBounds_toArray, List.set_cons_zero, List.set_cons_succ]))
      (refine wpAnyH_ready (rs := [8]) (by kernel_rfl) (by simp) ?_; refine AllReadyH.cons rfl (fun K hK => ?_) AllReadyH.nil; go_simp; (go_at_call 21; refine (eqCrossing_same _ _ _ _ _ _).mono ?_; rintro e w1 ⟨rfl, hy⟩); go_wp2_with fail; (refine hK.out _ _ (by first | assumption | exact Ext.trans (by assumption) hy | exact Res.ext (by assumption) hy | exact ResB.ext (by assumption) hy | exact ResC.ext (by assumption) hy | (go_split_ands; (repeat' apply And.intro) <;> exact Ext.cellOf hy (by assumption))) (fun hHeld => ?_)); clear hK K; (try simp only [Act.put, List.setIfInBounds_toArray, List.set_cons_zero, List.set_cons_succ]))
      (refine Ord.takeH 9 26 (v := ?_) rfl rfl (by kernel_rfl) (by kernel_rfl) (by kernel_rfl) (fun _ _ _ h => h) (by rfl) ?_ (by assumption) ?_; rotate_left; (intro w hSw; (try dsimp only at hSw); go_simp; (first | done | with_reducible rfl)); (try simp only [Act.put, List.setIfInBounds_toArray, List.set_cons_zero, List.set_cons_succ]))
      refine wpAnyH_done (by kernel_rfl) ?_ _
      have HX2 := Lib.hid (HX.out.drew.trans hy)
      clear hy c0 c1 c2 c3 c4 d0 d1 d2 d3 d4
      go_wp2
      go_roundw
      case rel => exact ⟨k + 1, by go_num, by omega, HX2.out⟩
      case measure => simp [intOf]; omega
    · obtain rfl : k = cs.length := by omega
      go_wp2
      go_ret
      exact ⟨rfl, HX.out⟩

/-- The marks of n crossings from k on. -/
def mkC (k : Int) (i : Nat) : C5 := ⟨k + 5 * i, k + 5 * i + 1, k + 5 * i + 2, k + 5 * i + 3, k + 5 * i + 4⟩
def mkL (k : Int) (n : Nat) : List C5 := (List.range n).map (mkC k)
theorem mkL_len (k : Int) (n : Nat) : (mkL k n).length = n := by simp [mkL]
theorem mkL_succ (k : Int) (n : Nat) : mkL k (n + 1) = mkL k n ++ [mkC k n] := by simp [mkL, List.range_succ]
theorem cx_mkL (k : Int) (n i : Nat) (h : i < n) : cx (mkL k n) i = mkC k i := by
  unfold cx mkL
  rw [List.getD_eq_getElem?_getD, List.getElem?_map, List.getElem?_range h]; rfl
theorem app_set5 (A : List C5) (x : C5) (a b c d e : Value) (R : List Value) :
    ((((((cellsC A ++ a :: b :: c :: d :: e :: R).set (A.length * 5) (.int .i64 x.t)).set (A.length * 5 + 1) (.int .i64 x.l)).set (A.length * 5 + 2) (.int .i64 x.g)).set (A.length * 5 + 3) (.int .i64 x.x)).set (A.length * 5 + 4) (.int .i64 x.y)) = cellsC (A ++ [x]) ++ R := by
  rw [← cellsC_app, ← cellsC_len A]
  simp [List.set_append]
theorem app_get (A : List C5) (a b c d e : Value) (R : List Value) : (cellsC A ++ a :: b :: c :: d :: e :: R)[A.length * 5]? = some a ∧ (cellsC A ++ a :: b :: c :: d :: e :: R)[A.length * 5 + 1]? = some b ∧ (cellsC A ++ a :: b :: c :: d :: e :: R)[A.length * 5 + 2]? = some c ∧ (cellsC A ++ a :: b :: c :: d :: e :: R)[A.length * 5 + 3]? = some d ∧ (cellsC A ++ a :: b :: c :: d :: e :: R)[A.length * 5 + 4]? = some e := by
  rw [← cellsC_len A]
  simp [List.getElem?_append]

def RelMC (w : World) (g n : Nat) (k : Int) (s i : Value) (wr : World) : Prop :=
  ∃ (j : Nat) (R : List Value), i = .int .i64 j ∧ s = .int .i64 (k + 5 * j) ∧ j ≤ n ∧ R.length = (n - j) * 5 ∧ Box wr g (cellsC (mkL k j) ++ R) ∧ Chg g w wr

set_option maxHeartbeats 1000000 in
theorem markCrossingS_any (g cap n : Nat) (k : Int) (w : World) (R0 : List Value) (hR0 : R0.length = n * 5) (hb : Box w g R0) (hn : n ≤ 1000) (k0 : 0 ≤ k) (k1 : k ≤ 10000000) :
    Calls Try.prog 17 #[.slice (some ⟨g, 0, none⟩) n cap, .int .i64 k] w fun e w' => e = .returned (.int .i64 (k + 5 * n)) ∧ Box w' g (cellsC (mkL k n)) ∧ Chg g w w' := by
  have HR := Lib.hid hb
  clear hb
  go_enter Try.func17, Try.ntmps17
  go_wp2
  go_loopw [1, 5] (fun s i wr => RelMC w g n k s i wr) (fun s i _ => n - (intOf i).toNat)
  case atStart => exact ⟨0, R0, rfl, by simp, Nat.zero_le _, by simpa using hR0, HR.out, Chg.refl _ _⟩
  case round =>
    obtain ⟨j, R, rfl, rfl, hj, hl, hB, hx⟩ := hrel
    have HX := Lib.hid hx
    clear hx
    by_cases hj1 : j < n
    · obtain ⟨q0, q1, q2, q3, q4, R', rfl⟩ : ∃ q0 q1 q2 q3 q4 R', R = q0 :: q1 :: q2 :: q3 :: q4 :: R' := by
        have h5 : 5 ≤ R.length := by omega
        match R, h5 with
        | q0 :: q1 :: q2 :: q3 :: q4 :: R', _ => exact ⟨q0, q1, q2, q3, q4, R', rfl⟩
      obtain ⟨a0, a1, a2, a3, a4⟩ := app_get (mkL k j) q0 q1 q2 q3 q4 R'
      rw [mkL_len] at a0 a1 a2 a3 a4
      obtain ⟨d0, f0⟩ := hB _ _ a0
      obtain ⟨d1, f1⟩ := hB _ _ a1
      obtain ⟨d2, f2⟩ := hB _ _ a2
      obtain ⟨d3, f3⟩ := hB _ _ a3
      obtain ⟨d4, f4⟩ := hB _ _ a4
      have AS := Lib.hid (app_set5 (mkL k j) (mkC k j) q0 q1 q2 q3 q4 R')
      rw [mkL_len] at AS
      have HB := Lib.hid hB
      have LL := Lib.hid (show (cellsC (mkL k j) ++ q0 :: q1 :: q2 :: q3 :: q4 :: R').length = j * 5 + 5 + R'.length by rw [List.length_append, cellsC_len, mkL_len]; simp; omega)
      have RL := Lib.hid (show R'.length = (n - (j + 1)) * 5 by simp at hl; omega)
      clear a0 a1 a2 a3 a4 hB hl
      have i0 : (0 : Int) ≤ (j : Int) := by omega
      have i1 : (j : Int) < (n : Int) := by omega
      have T0 : IntKind.i64.wrap ((j : Int) + 1) = (j : Int) + 1 := IntWalk.i64_in _ (by omega)
      have T1 : IntKind.i64.wrap (k + 5 * (j : Int) + 1) = k + 5 * (j : Int) + 1 := IntWalk.i64_in _ (by omega)
      have T2 : IntKind.i64.wrap (k + 5 * (j : Int) + 1 + 1) = k + 5 * (j : Int) + 2 := by rw [IntWalk.i64_in _ (by omega)]; omega
      have T3 : IntKind.i64.wrap (k + 5 * (j : Int) + 2 + 1) = k + 5 * (j : Int) + 3 := by rw [IntWalk.i64_in _ (by omega)]; omega
      have T4 : IntKind.i64.wrap (k + 5 * (j : Int) + 3 + 1) = k + 5 * (j : Int) + 4 := by rw [IntWalk.i64_in _ (by omega)]; omega
      have T5 : IntKind.i64.wrap (k + 5 * (j : Int) + 4 + 1) = k + 5 * (j : Int) + 5 := by rw [IntWalk.i64_in _ (by omega)]; omega
      have z0 : decide ((j : Int) < (n : Int)) = true := decide_eq_true i1
      go_wp2
      go_roundw
      case rel =>
        refine ⟨j + 1, R', by go_num, by congr 1; omega, by omega, RL.out, ?_, ((((HX.out.setCell _ _).setCell _ _).setCell _ _).setCell _ _).setCell _ _⟩
        rw [mkL_succ, ← AS.out]
        exact ((((HB.out.set (j * 5) (by rw [LL.out]; omega) _).set (j * 5 + 1) (by simp only [List.length_set]; rw [LL.out]; omega) _).set (j * 5 + 2) (by simp only [List.length_set]; rw [LL.out]; omega) _).set (j * 5 + 3) (by simp only [List.length_set]; rw [LL.out]; omega) _).set (j * 5 + 4) (by simp only [List.length_set]; rw [LL.out]; omega) _
      case measure => simp [intOf]; omega
    · obtain rfl : j = n := by omega
      have e : R = [] := List.length_eq_zero_iff.1 (by rw [hl]; simp)
      rw [e, List.append_nil] at hB
      have HB := Lib.hid hB
      clear hB
      go_wp2
      go_ret
      exact ⟨rfl, HB.out, HX.out⟩

def RelWC (w : World) (n : Nat) (k : Int) (s i : Value) (wr : World) : Prop := ∃ j : Nat, i = .int .i64 j ∧ s = .int .i64 (k + 5 * j) ∧ j ≤ n ∧ w = wr

set_option maxHeartbeats 1000000 in
theorem heldCrossingS_any (g cap n : Nat) (k : Int) (w : World) (hm : Box w g (cellsC (mkL k n))) (hn : n ≤ 1000) (k0 : 0 ≤ k) (k1 : k ≤ 10000000) :
    Calls Try.prog 18 #[.slice (some ⟨g, 0, none⟩) n cap, .int .i64 k] w fun e w' => e = .returned (.int .i64 (k + 5 * n)) ∧ w = w' := by
  have HM := Lib.hid hm
  clear hm
  go_enter Try.func18, Try.ntmps18
  go_wp2
  go_loopw [1, 5] (fun s i wr => RelWC w n k s i wr) (fun s i _ => n - (intOf i).toNat)
  case atStart => exact ⟨0, rfl, by simp, Nat.zero_le _, rfl⟩
  case round =>
    obtain ⟨j, rfl, rfl, hj, rfl⟩ := hrel
    by_cases hj1 : j < n
    · obtain ⟨a0, a1, a2, a3, a4⟩ := cellsC_get (mkL k n) j (by rw [mkL_len]; exact hj1)
      rw [cx_mkL k n j hj1] at a0 a1 a2 a3 a4
      have d0 : w.cell? ⟨g, j * 5, none⟩ = some (.int .i64 (k + 5 * j)) := (HM.out _ _ a0).1
      have d1 : w.cell? ⟨g, j * 5 + 1, none⟩ = some (.int .i64 (k + 5 * j + 1)) := (HM.out _ _ a1).1
      have d2 : w.cell? ⟨g, j * 5 + 2, none⟩ = some (.int .i64 (k + 5 * j + 2)) := (HM.out _ _ a2).1
      have d3 : w.cell? ⟨g, j * 5 + 3, none⟩ = some (.int .i64 (k + 5 * j + 3)) := (HM.out _ _ a3).1
      have d4 : w.cell? ⟨g, j * 5 + 4, none⟩ = some (.int .i64 (k + 5 * j + 4)) := (HM.out _ _ a4).1
      clear a0 a1 a2 a3 a4
      have i0 : (0 : Int) ≤ (j : Int) := by omega
      have i1 : (j : Int) < (n : Int) := by omega
      have T0 : IntKind.i64.wrap ((j : Int) + 1) = (j : Int) + 1 := IntWalk.i64_in _ (by omega)
      have T1 : IntKind.i64.wrap (k + 5 * (j : Int) + 1) = k + 5 * (j : Int) + 1 := IntWalk.i64_in _ (by omega)
      have T2 : IntKind.i64.wrap (k + 5 * (j : Int) + 1 + 1) = k + 5 * (j : Int) + 2 := by rw [IntWalk.i64_in _ (by omega)]; omega
      have T3 : IntKind.i64.wrap (k + 5 * (j : Int) + 2 + 1) = k + 5 * (j : Int) + 3 := by rw [IntWalk.i64_in _ (by omega)]; omega
      have T4 : IntKind.i64.wrap (k + 5 * (j : Int) + 3 + 1) = k + 5 * (j : Int) + 4 := by rw [IntWalk.i64_in _ (by omega)]; omega
      have T5 : IntKind.i64.wrap (k + 5 * (j : Int) + 4 + 1) = k + 5 * (j : Int) + 5 := by rw [IntWalk.i64_in _ (by omega)]; omega
      have z0 : decide ((j : Int) < (n : Int)) = true := decide_eq_true i1
      go_wp2
      go_roundw
      case rel => exact ⟨j + 1, by go_num, by congr 1; omega, by omega, rfl⟩
      case measure => simp [intOf]; omega
    · obtain rfl : j = n := by omega
      go_wp2
      go_ret
      exact ⟨rfl, rfl⟩

/-- A row without crossings. -/
theorem markCrossingS_zero (a : Option Addr) (cap : Nat) (k : Int) (w : World) : Calls Try.prog 17 #[.slice a 0 cap, .int .i64 k] w fun e w' => e = .returned (.int .i64 k) ∧ w = w' := by
  go_enter Try.func17, Try.ntmps17
  go_wp2
  go_loopw [1, 5] (fun s i wr => i = .int .i64 0 ∧ s = .int .i64 k ∧ w = wr) (fun s i _ => 0)
  case atStart => exact ⟨rfl, rfl, rfl⟩
  case round =>
    obtain ⟨rfl, rfl, rfl⟩ := hrel
    go_wp2
    go_ret
    exact ⟨rfl, rfl⟩
theorem heldCrossingS_zero (a : Option Addr) (cap : Nat) (k : Int) (w : World) : Calls Try.prog 18 #[.slice a 0 cap, .int .i64 k] w fun e w' => e = .returned (.int .i64 k) ∧ w = w' := by
  go_enter Try.func18, Try.ntmps18
  go_wp2
  go_loopw [1, 5] (fun s i wr => i = .int .i64 0 ∧ s = .int .i64 k ∧ w = wr) (fun s i _ => 0)
  case atStart => exact ⟨rfl, rfl, rfl⟩
  case round =>
    obtain ⟨rfl, rfl, rfl⟩ := hrel
    go_wp2
    go_ret
    exact ⟨rfl, rfl⟩

def ChgV (v : Value) (base : Nat) (w w' : World) : Prop := Ext w w' ∨ ∃ B, base ≤ B ∧ v.ownBlock = some B ∧ Chg B w w'
theorem ChgV.ext {v : Value} {base : Nat} {W w w' : World} (h : ChgV v base w w') (k : Ext W w) (hW : W.heap.size ≤ base) : Ext W w' := by
  rcases h with h | ⟨B, hB, _, h⟩
  · exact k.trans h
  · exact h.ext k (by omega)
def HeldC (w : World) (v : Value) (k : Int) (n : Nat) : Prop := (v = .slice none 0 0 ∧ n = 0) ∨ ∃ g cap, v = .slice (some ⟨g, 0, none⟩) n cap ∧ Box w g (cellsC (mkL k n))
theorem HeldC.ext {w w' : World} {v : Value} {k : Int} {n : Nat} (h : HeldC w v k n) (x : Ext w w') : HeldC w' v k n := by
  rcases h with h | ⟨g, cap, e, h⟩
  · exact .inl h
  · exact .inr ⟨g, cap, e, h.ext x⟩
theorem OwnC.box {w : World} {base g cap : Nat} {cs : List C5} (h : OwnC w base (.slice (some ⟨g, 0, none⟩) cs.length cap) cs) : Box w g (cellsC cs) := fun i v hv => by
  have hi : i < cs.length * 5 := by rw [← cellsC_len]; exact (List.getElem?_eq_some_iff.1 hv).1
  exact ⟨by rw [World.ownsRow.cellAt h i hi]; exact hv, World.ownsRow.frozenAt h i⟩
theorem markOwnC_any (base : Nat) (v : Value) (cs : List C5) (k : Int) (w : World) (h : OwnC w base v cs) (hn : cs.length ≤ 1000) (k0 : 0 ≤ k) (k1 : k ≤ 10000000) :
    Calls Try.prog 17 #[v, .int .i64 k] w fun e w' => e = .returned (.int .i64 (k + 5 * cs.length)) ∧ HeldC w' v k cs.length ∧ ChgV v base w w' := by
  rcases h.cases with ⟨rfl, rfl⟩ | ⟨g, cap, rfl, hb, hO, hf, ho⟩
  · exact (markCrossingS_zero _ _ k w).mono fun e w' ⟨he, hx⟩ => ⟨by simpa using he, .inl ⟨rfl, rfl⟩, .inl (hx ▸ Ext.refl w)⟩
  · exact (markCrossingS_any g cap _ k w _ (cellsC_len cs) h.box hn k0 k1).mono fun e w' ⟨he, hm, hc⟩ => ⟨he, .inr ⟨g, cap, rfl, hm⟩, .inr ⟨g, hb, ho, hc⟩⟩
theorem heldOwnC_any (v : Value) (n : Nat) (k : Int) (w : World) (h : HeldC w v k n) (hn : n ≤ 1000) (k0 : 0 ≤ k) (k1 : k ≤ 10000000) :
    Calls Try.prog 18 #[v, .int .i64 k] w fun e w' => e = .returned (.int .i64 (k + 5 * n)) ∧ w = w' := by
  rcases h with ⟨rfl, rfl⟩ | ⟨g, cap, rfl, hm⟩
  · exact (heldCrossingS_zero _ _ k w).mono fun e w' ⟨he, hx⟩ => ⟨by simpa using he, hx⟩
  · exact heldCrossingS_any g cap n k w hm hn k0 k1

end Go.Proofs.Ytaliopnhdcdajaa.Rwk
