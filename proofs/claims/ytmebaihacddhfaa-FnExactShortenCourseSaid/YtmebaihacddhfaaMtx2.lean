/- Marking the marks of a course, and looking whether the marks are held (laws): the very texts. -/
import Derived.Test.YtmebaihacddhfaaMtx
import Derived.Test.YtmebaihacddhfaaSta
namespace Go.Proofs.Ytmebaihacddhfaa.Crs
open Go.ChangeShapes Go.WideShapes Go.ChangeAt Go.RowKit
open Go.Proofs.Ytmebaihacddhfaa.Num Go.Proofs.Ytmebaihacddhfaa.Kit Go.Proofs.Ytmebaihacddhfaa.Pts Go.Proofs.Ytmebaihacddhfaa.Seg
set_option linter.unusedVariables false
set_option linter.unusedSimpArgs false

/-- The digits of a number ahead of a text. -/
def dg (m : Nat) : ByteArray := ⟨#[48 + UInt8.ofNat (m % 10)]⟩
def tl : Nat → Nat → ByteArray → ByteArray
  | 0, _, s => s
  | f + 1, m, s => if m = 0 then s else tl f (m / 10) (dg m ++ s)
/-- The text of a mark. -/
def mtS (k : Nat) : ByteArray := if k = 0 then ⟨#[109, 48]⟩ else ⟨#[109]⟩ ++ tl 10 k ⟨#[]⟩
theorem tl_zero (f : Nat) (s : ByteArray) : tl f 0 s = s := by cases f <;> rfl

def RelTY (w : World) (T : ByteArray) (m o : Value) (wr : World) : Prop :=
  ∃ (k : Nat) (s : ByteArray), m = .int .i64 k ∧ o = .string s ∧ k * 10 ^ s.size ≤ 1000000000 ∧ s.size ≤ 10 ∧ tl (10 - s.size) k s = T ∧ Ext w wr

set_option maxRecDepth 100000 in
set_option maxHeartbeats 1000000 in
theorem markText_is (k : Nat) (w : World) (hk : k ≤ 1000000000) : Calls Try.prog 95 #[.int .i64 k] w fun e w' => e = .returned (.string (mtS k)) ∧ Ext w w' := by
  by_cases h0 : k = 0
  · subst h0
    go_enter Try.func95, Try.ntmps95
    go_wp2
    go_ret
    exact ⟨rfl, (by repeat (first | exact Ext.refl _ | assumption | apply Ext.alloc | apply Ext.drew | (refine Ext.trans ?_ (by assumption)) | (refine Ext.setNew ?_ (by simp <;> omega) _)))⟩
  · have h1 : ¬ ((k : Int) ≤ 0) := by omega
    have HT := Lib.hid (show mtS k = ⟨#[109]⟩ ++ tl 10 k ⟨#[]⟩ by unfold mtS; rw [if_neg h0])
    obtain ⟨T, hT⟩ : ∃ T, T = tl 10 k ⟨#[]⟩ := ⟨_, rfl⟩
    rw [← hT] at HT
    rw [HT.out]
    replace hT := Lib.hid hT
    go_enter Try.func95, Try.ntmps95
    go_wp2
    go_loopw [0, 3] (fun m o wr => RelTY w T m o wr) (fun m o _ => (intOf m).toNat)
    case atStart => exact ⟨k, ⟨#[]⟩, rfl, rfl, (by show k * 10 ^ 0 ≤ 1000000000; omega), Nat.zero_le _, hT.out.symm, Ext.refl _⟩
    case round =>
      obtain ⟨m, s, rfl, rfl, hp, hs, ht, hx⟩ := hrel
      have HX := Lib.hid hx
      clear hx
      have hm0' := Nat.le_trans (Nat.le_mul_of_pos_right m (Nat.pow_pos (by omega))) hp
      by_cases hm0 : 0 < m
      · obtain ⟨t1, t2⟩ := tx_step hp hm0
        have T1 := Lib.hid t1
        have TT := Lib.hid (show tl (10 - (1 + s.size)) (m / 10) (dg m ++ s) = T by
          rw [← ht, show 10 - s.size = (10 - (1 + s.size)) + 1 by omega]
          show _ = if m = 0 then s else _
          rw [if_neg (by omega)])
        have z0 : (0 : Int) < (m : Int) := by omega
        have z1 : ¬ 9223372036854775807 < 1 + s.size := by omega
        have TQ : IntKind.i64.wrap ((m : Int) / 10) = (m : Int) / 10 := IntWalk.i64_in _ (by omega)
        have TR : RowKit.wrap64 ((m : Int) / 10) = (m : Int) / 10 := by rw [← Go.PlainAid.i64_is]; exact TQ
        clear hp t1 hm0' ht
        have HS := Lib.hid hs
        clear hs
        have hcv := conv_new (48 + (m : Int) % 10) (by omega) (by omega)
        go_wp2
        go_roundw
        case rel => exact ⟨m / 10, _, by go_num, rfl, (by rw [ByteArray.size_append]; show m / 10 * 10 ^ (1 + s.size) ≤ 1000000000; rw [Nat.add_comm]; exact T1.out), (by rw [ByteArray.size_append]; show 1 + s.size ≤ 10; omega), (by rw [ByteArray.size_append]; exact TT.out), HX.out.alloc _⟩
        case measure => simp [intOf]; omega
      · obtain rfl : m = 0 := by omega
        have z1 : ¬ 9223372036854775807 < 1 + s.size := by omega
        rw [tl_zero] at ht
        subst ht
        go_wp2
        go_ret
        exact ⟨rfl, HX.out⟩

/-- The mark number i. -/
def mkM (k i : Nat) : M5 := ⟨mtS (k + 5 * i), ((k + 5 * i : Nat) : Int) + 1, ((k + 5 * i : Nat) : Int) + 1 + 1, ((k + 5 * i : Nat) : Int) + 1 + 1 + 1, ((k + 5 * i : Nat) : Int) + 1 + 1 + 1 + 1⟩
def MarkedM (w : World) (g k j : Nat) : Prop := ∀ i, i < j → At w g (i * 5) (mkM k i)
def RelMX (w : World) (g n k : Nat) (s i : Value) (wr : World) : Prop :=
  ∃ j : Nat, i = .int .i64 j ∧ s = .int .i64 ((k + 5 * j : Nat) : Int) ∧ j ≤ n ∧ RoomM wr g n ∧ MarkedM wr g k j ∧ Chg g w wr

set_option maxHeartbeats 1000000 in
theorem markMarkS_is (g cap n k : Nat) (w : World) (hr : RoomM w g n) (hn : n ≤ 1048576) (k1 : k ≤ 10000000) :
    Calls Try.prog 71 #[.slice (some ⟨g, 0, none⟩) n cap, .int .i64 k] w fun e w' => e = .returned (.int .i64 ((k + 5 * n : Nat) : Int)) ∧ MarkedM w' g k n ∧ Chg g w w' := by
  have HR := Lib.hid hr
  clear hr
  go_enter Try.func71, Try.ntmps71
  go_wp2
  go_loopw [1, 5] (fun s i wr => RelMX w g n k s i wr) (fun s i _ => n - (intOf i).toNat)
  case atStart => exact ⟨0, rfl, by simp, Nat.zero_le _, HR.out, fun i hi => absurd hi (by omega), Chg.refl _ _⟩
  case round =>
    obtain ⟨j, rfl, hs, hj, hr, hm, hx⟩ := hrel
    have HR2 := Lib.hid hr
    have HM := Lib.hid hm
    have HX := Lib.hid hx
    clear hr hx hm
    obtain ⟨q, hq⟩ : ∃ q : Nat, q = k + 5 * j := ⟨_, rfl⟩
    rw [← hq] at hs
    subst hs
    have HQ := Lib.hid hq
    have q1 : q ≤ 20000000 := by omega
    clear hq
    by_cases hj1 : j < n
    · have i0 : (0 : Int) ≤ (j : Int) := by omega
      have i1 : (j : Int) < (n : Int) := by omega
      have T0 : IntKind.i64.wrap ((j : Int) + 1) = (j : Int) + 1 := IntWalk.i64_in _ (by omega)
      have T1 : IntKind.i64.wrap ((q : Int) + 1) = (q : Int) + 1 := IntWalk.i64_in _ (by omega)
      have T2 : IntKind.i64.wrap ((q : Int) + 1 + 1) = (q : Int) + 1 + 1 := IntWalk.i64_in _ (by omega)
      have T3 : IntKind.i64.wrap ((q : Int) + 1 + 1 + 1) = (q : Int) + 1 + 1 + 1 := IntWalk.i64_in _ (by omega)
      have T4 : IntKind.i64.wrap ((q : Int) + 1 + 1 + 1 + 1) = (q : Int) + 1 + 1 + 1 + 1 := IntWalk.i64_in _ (by omega)
      have T5 : IntKind.i64.wrap ((q : Int) + 1 + 1 + 1 + 1 + 1) = (q : Int) + 1 + 1 + 1 + 1 + 1 := IntWalk.i64_in _ (by omega)
      have z0 : decide ((j : Int) < (n : Int)) = true := decide_eq_true i1
      go_wp2_with fail
      refine (markText_is q _ (by omega)).mono ?_
      rintro e w1 ⟨rfl, hy⟩
      have R1 := Lib.hid (HR2.out.ext hy)
      have M1 := Lib.hid (show MarkedM w1 g k j from fun i hi => (HM.out i hi).ext hy)
      have X1 := Lib.hid (HX.out.trans (Chg.of_ext hy))
      obtain ⟨⟨v0, d0⟩, f0⟩ := R1.out (j * 5) (by omega)
      obtain ⟨⟨v1, d1⟩, f1⟩ := R1.out (j * 5 + 1) (by omega)
      obtain ⟨⟨v2, d2⟩, f2⟩ := R1.out (j * 5 + 2) (by omega)
      obtain ⟨⟨v3, d3⟩, f3⟩ := R1.out (j * 5 + 3) (by omega)
      obtain ⟨⟨v4, d4⟩, f4⟩ := R1.out (j * 5 + 4) (by omega)
      clear hy
      obtain ⟨S, hS⟩ : ∃ S, S = mtS q := ⟨_, rfl⟩
      have HS := Lib.hid hS
      rw [← hS]
      clear hS
      go_wp2
      go_roundw
      case rel =>
        refine ⟨j + 1, by go_num, by have := HQ.out; congr 1; omega, by omega, R1.out.put (by omega) _ _ _ _ _, fun i hi => ?_, Chg.put5 X1.out _ _ _ _ _⟩
        by_cases h : i = j
        · subst h
          have P := put5_at (w := w1) (B := g) (o := i * 5) (fun r hr => (R1.out (i * 5 + r) (by omega)).1) (.string S) (.int .i64 ((q : Int) + 1)) (.int .i64 ((q : Int) + 1 + 1)) (.int .i64 ((q : Int) + 1 + 1 + 1)) (.int .i64 ((q : Int) + 1 + 1 + 1 + 1))
          unfold At mkM
          rw [← HQ.out, ← HS.out]
          exact P
        · obtain ⟨c0, c1, c2, c3, c4⟩ := M1.out i (by omega)
          refine ⟨?_, ?_, ?_, ?_, ?_⟩
          all_goals
            rw [put5_other _ _ _ _ _ _ _ _ _ (by omega)]; assumption
      case measure => simp [intOf]; omega
    · obtain rfl : j = n := by omega
      go_wp2
      go_ret
      exact ⟨by rw [HQ.out]; rfl, HM.out, HX.out⟩

def RelHM (w : World) (n k : Nat) (s i : Value) (wr : World) : Prop := ∃ j : Nat, i = .int .i64 j ∧ s = .int .i64 ((k + 5 * j : Nat) : Int) ∧ j ≤ n ∧ Ext w wr

set_option maxHeartbeats 2000000 in
theorem heldMarkS_is (g cap n k : Nat) (w : World) (hm : MarkedM w g k n) (hn : n ≤ 1048576) (k1 : k ≤ 10000000) :
    Calls Try.prog 76 #[.slice (some ⟨g, 0, none⟩) n cap, .int .i64 k] w fun e w' => e = .returned (.int .i64 ((k + 5 * n : Nat) : Int)) ∧ Ext w w' := by
  have HM := Lib.hid hm
  clear hm
  go_enter Try.func76, Try.ntmps76
  go_wp2
  go_loopw [1, 5] (fun s i wr => RelHM w n k s i wr) (fun s i _ => n - (intOf i).toNat)
  case atStart => exact ⟨0, rfl, by simp, Nat.zero_le _, Ext.refl _⟩
  case round =>
    obtain ⟨j, rfl, hs, hj, hx⟩ := hrel
    have HX := Lib.hid hx
    clear hx
    by_cases hj1 : j < n
    · have MM := (HM.out j hj1).ext HX.out
      unfold At mkM at MM
      obtain ⟨q, hq⟩ : ∃ q : Nat, q = k + 5 * j := ⟨_, rfl⟩
      rw [← hq] at hs MM
      subst hs
      have HQ := Lib.hid hq
      have q1 : q ≤ 20000000 := by omega
      have MT := Lib.hid (fun w => markText_is q w (by omega))
      obtain ⟨S, hS⟩ : ∃ S, S = mtS q := ⟨_, rfl⟩
      rw [← hS] at MM MT
      obtain ⟨c0, c1, c2, c3, c4⟩ := MM
      clear hq hS
      have i0 : (0 : Int) ≤ (j : Int) := by omega
      have i1 : (j : Int) < (n : Int) := by omega
      have T0 : IntKind.i64.wrap ((j : Int) + 1) = (j : Int) + 1 := IntWalk.i64_in _ (by omega)
      have T1 : IntKind.i64.wrap ((q : Int) + 1) = (q : Int) + 1 := IntWalk.i64_in _ (by omega)
      have T2 : IntKind.i64.wrap ((q : Int) + 1 + 1) = (q : Int) + 1 + 1 := IntWalk.i64_in _ (by omega)
      have T3 : IntKind.i64.wrap ((q : Int) + 1 + 1 + 1) = (q : Int) + 1 + 1 + 1 := IntWalk.i64_in _ (by omega)
      have T4 : IntKind.i64.wrap ((q : Int) + 1 + 1 + 1 + 1) = (q : Int) + 1 + 1 + 1 + 1 := IntWalk.i64_in _ (by omega)
      have T5 : IntKind.i64.wrap ((q : Int) + 1 + 1 + 1 + 1 + 1) = (q : Int) + 1 + 1 + 1 + 1 + 1 := IntWalk.i64_in _ (by omega)
      have z0 : decide ((j : Int) < (n : Int)) = true := decide_eq_true i1
      have e0 : ∀ w', Ext wr w' → w'.cell? ⟨g, j * 5, none⟩ = some (.string S) := fun w' h => h.cellOf c0
      go_wp2_with fail
      refine wp_region_held_drew (S := (fun w' => Ext wr w')) (by kernel_rfl) (by (try dsimp only); first | go_keep | exact (Ext.refl _).drew | exact Res.new2.drew | exact Res.new4.drew | exact ResB.drew (by assumption) | exact ResC.drew (by assumption) | assumption | exact Res.drew (by assumption)) (fun hHeld => ?_)
      (refine Ord.takeH 0 12 (v := ?_) rfl rfl (by kernel_rfl) (by kernel_rfl) (by kernel_rfl) (fun _ _ _ h => h) (by rfl) ?_ (by assumption) ?_; rotate_left; (intro w hSw; (try dsimp only at hSw); go_simp; (first | done | with_reducible rfl)); (try simp only [Act.put, List.setIfInBounds_toArray, List.set_cons_zero, List.set_cons_succ]))
      (refine Ord.takeH 1 13 (v := ?_) rfl rfl (by kernel_rfl) (by kernel_rfl) (by kernel_rfl) (fun _ _ _ h => h) (by rfl) ?_ (by assumption) ?_; rotate_left; (intro w hSw; (try dsimp only at hSw); go_simp; (first | done | with_reducible rfl)); (try simp only [Act.put, List.setIfInBounds_toArray, List.set_cons_zero, List.set_cons_succ]))
      (refine Ord.takeH 2 14 (v := ?_) rfl rfl (by kernel_rfl) (by kernel_rfl) (by kernel_rfl) (fun _ _ _ h => h) (by rfl) ?_ (by assumption) ?_; rotate_left; (intro w hSw; (try dsimp only at hSw); go_simp; (first | done | with_reducible rfl)); (try simp only [Act.put, List.setIfInBounds_toArray, List.set_cons_zero, List.set_cons_succ]))
      (refine Ord.takeH 3 15 (v := ?_) rfl rfl (by kernel_rfl) (by kernel_rfl) (by kernel_rfl) (fun _ _ _ h => h) (by rfl) ?_ (by assumption) ?_; rotate_left; (intro w hSw; (try dsimp only at hSw); go_simp; (first | done | with_reducible rfl)); (try simp only [Act.put, List.setIfInBounds_toArray, List.set_cons_zero, List.set_cons_succ]))
      (refine Ord.takeH 4 16 (v := ?_) rfl rfl (by kernel_rfl) (by kernel_rfl) (by kernel_rfl) (fun _ _ _ h => h) (by rfl) ?_ (by assumption) ?_; rotate_left; (intro w hSw; (try dsimp only at hSw); go_simp; (first | done | with_reducible rfl)); (try simp only [Act.put, List.setIfInBounds_toArray, List.set_cons_zero, List.set_cons_succ]))
      (refine Ord.takeH 5 17 (v := ?_) rfl rfl (by kernel_rfl) (by kernel_rfl) (by kernel_rfl) (fun _ _ _ h => h) (by rfl) ?_ (by assumption) ?_; rotate_left; (intro w hSw; (try dsimp only at hSw); go_simp; (first | done | with_reducible rfl)); (try simp only [Act.put, List.setIfInBounds_toArray, List.set_cons_zero, List.set_cons_succ]))
      (refine wpAnyH_ready (rs := [6]) (by kernel_rfl) (by simp) ?_; refine AllReadyH.cons rfl (fun K hK => ?_) AllReadyH.nil; go_simp; (go_at_call 95; refine (MT.out _).mono ?_; rintro e w1 ⟨rfl, hy⟩); go_wp2_with fail; (refine hK.out _ _ (by first | assumption | exact Ext.trans (by assumption) hy | exact Res.ext (by assumption) hy | exact ResB.ext (by assumption) hy | exact ResC.ext (by assumption) hy | (go_split_ands; (repeat' apply And.intro) <;> exact Ext.cellOf hy (by assumption))) (fun hHeld => ?_)); clear hK K; (try simp only [Act.put, List.setIfInBounds_toArray, List.set_cons_zero, List.set_cons_succ]))
      (refine Ord.takeH 7 19 (v := ?_) rfl rfl (by kernel_rfl) (by kernel_rfl) (by kernel_rfl) (fun _ _ _ h => h) (by rfl) ?_ (by assumption) ?_; rotate_left; (intro w hSw; (try dsimp only at hSw); go_simp; (first | done | with_reducible rfl)); (try simp only [Act.put, List.setIfInBounds_toArray, List.set_cons_zero, List.set_cons_succ]))
      refine wpAnyH_done (by kernel_rfl) ?_ _
      have hH : Ext wr w1 := hHeld
      replace c1 := hH.cellOf c1
      replace c2 := hH.cellOf c2
      replace c3 := hH.cellOf c3
      replace c4 := hH.cellOf c4
      have HY := Lib.hid (HX.out.trans hH)
      clear hH hHeld hy e0 c0
      go_wp2
      go_roundw
      case rel => exact ⟨j + 1, by go_num, by have := HQ.out; congr 1; omega, by omega, HY.out⟩
      case measure => simp [intOf]; omega
    · obtain rfl : j = n := by omega
      subst hs
      go_wp2
      go_ret
      exact ⟨rfl, HX.out⟩

end Go.Proofs.Ytmebaihacddhfaa.Crs
