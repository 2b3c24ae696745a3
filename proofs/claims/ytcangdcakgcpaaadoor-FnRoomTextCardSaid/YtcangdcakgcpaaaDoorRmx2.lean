/- Reading the text of a room (chapter 11), both. -/
import Derived.Test.YtcangdcakgcpaaaDoorRmt
import Derived.Test.YtcangdcakgcpaaaDoorCrp
import Derived.Test.YtcangdcakgcpaaaDoorCel
import Derived.Deep.DeepCutAuto
namespace Go.Proofs.YtcangdcakgcpaaaDoor.Rmx
open Go.ChangeShapes Go.WideShapes Go.ChangeAt Go.RowKit
open Go.Proofs.YtcangdcakgcpaaaDoor.Num Go.Proofs.YtcangdcakgcpaaaDoor.Kit Go.Proofs.YtcangdcakgcpaaaDoor.Txt Go.Proofs.YtcangdcakgcpaaaDoor.TxtMath Go.Proofs.YtcangdcakgcpaaaDoor.RmT Go.Proofs.YtcangdcakgcpaaaDoor.Crs
set_option linter.unusedVariables false
set_option linter.unusedSimpArgs false

def ws5 : List (List UInt8) := [vNone, vOpposite, vInside, vAhead, vUnclear]
def wsm (j : Nat) : List UInt8 := ws5.getD j []
theorem im_hit {l : List UInt8} {j : Nat} (hj : j < 5) (hd : ∀ i, i < j → wsm i ≠ l) (h : wsm j = l) : imN l = j := by
  subst h
  rcases (show j = 0 ∨ j = 1 ∨ j = 2 ∨ j = 3 ∨ j = 4 by omega) with rfl | rfl | rfl | rfl | rfl <;> decide
theorem im_miss {l : List UInt8} (hd : ∀ i, i < 5 → wsm i ≠ l) : imN l = -1 := by
  unfold imN
  rw [if_neg (fun e => hd 0 (by omega) (by rw [e]; rfl)), if_neg (fun e => hd 1 (by omega) (by rw [e]; rfl)), if_neg (fun e => hd 2 (by omega) (by rw [e]; rfl)), if_neg (fun e => hd 3 (by omega) (by rw [e]; rfl)), if_neg (fun e => hd 4 (by omega) (by rw [e]; rfl))]
def RelMx (w : World) (l : List UInt8) (i : Value) (wr : World) : Prop := ∃ j : Nat, i = .int .i64 j ∧ j ≤ 5 ∧ (∀ k, k < j → wsm k ≠ l) ∧ Ext w wr

set_option maxHeartbeats 1000000 in
theorem index5_any (g : Nat) (l : List UInt8) (w : World) (hc : ∀ j, j < 5 → w.cell? ⟨g, j, none⟩ = some (St (wsm j))) :
    Calls Tryd.prog 30 #[.slice (some ⟨g, 0, none⟩) 5 5, St l] w fun e w' => e = .returned (.int .i64 (imN l)) ∧ Ext w w' := by
  have HC := Lib.hid hc
  clear hc
  go_enter Tryd.func30, Tryd.ntmps30
  go_wp2
  go_loopw [8] (fun i wr => RelMx w l i wr) (fun i _ => 5 - (intOf i).toNat)
  case atStart => exact ⟨0, rfl, by omega, fun k hk => absurd hk (by omega), Ext.refl _⟩
  case round =>
    obtain ⟨j, rfl, hj, hd, hx⟩ := hrel
    have HD := Lib.hid hd
    have HX := Lib.hid hx
    clear hd hx
    by_cases hj1 : j < 5
    · have c0 := HX.out.cellOf (HC.out j hj1)
      have i0 : (0 : Int) ≤ (j : Int) := by omega
      have i1 : (j : Int) < 5 := by omega
      have T7 : IntKind.i64.wrap ((j : Int) + 1) = (j : Int) + 1 := IntWalk.i64_in _ (by omega)
      by_cases h : wsm j = l
      · have H := Lib.hid (im_hit hj1 HD.out h)
        rw [h] at c0
        clear h
        go_wp2
        go_ret
        exact ⟨ret_int H.out, HX.out⟩
      · have hne : (l == wsm j) = false := beq_eq_false_iff_ne.2 (fun e => h e.symm)
        have H := Lib.hid h
        clear h
        obtain ⟨X, hX⟩ : ∃ X, X = wsm j := ⟨_, rfl⟩
        rw [← hX] at c0 hne
        clear hX
        go_wp2
        go_roundw
        case rel => exact ⟨j + 1, by go_num, by omega, fun k hk => by rcases Nat.lt_or_ge k j with g | g; exact HD.out k g; exact (show k = j by omega) ▸ H.out, HX.out⟩
        case measure => simp [intOf]; omega
    · obtain rfl : j = 5 := by omega
      have H := Lib.hid (im_miss HD.out)
      go_wp2
      go_ret
      exact ⟨ret_int H.out, HX.out⟩

theorem roomReasonNamed_any (l : List UInt8) (w : World) : Calls Tryd.prog 22 #[St l] w fun e w' => e = .returned (.int .i64 (imN l)) ∧ Ext w w' := by
  go_enter Tryd.func22, Tryd.ntmps22
  go_wp2_with fail
  refine (wordsM_impl _).mono ?_
  rintro e w1 ⟨rfl, hx⟩
  have K := Lib.hid (index5_any w1.heap.size l (w1.alloc (.cells #[St vNone, St vOpposite, St vInside, St vAhead, St vUnclear] 41)) (fun j hj => by
    refine boxed j ?_ rfl
    rcases (show j = 0 ∨ j = 1 ∨ j = 2 ∨ j = 3 ∨ j = 4 by omega) with rfl | rfl | rfl | rfl | rfl <;> rfl))
  go_wp2_with fail
  refine K.out.mono ?_
  rintro e w2 ⟨rfl, hy⟩
  go_wp2
  go_ret
  exact ⟨rfl, (hx.alloc _).trans hy⟩

theorem rmr_done {n : Nat} {w F : World} {tmps : Array Value} {a b : Int} {k : Bool} (B : Box F n [.int .i64 a, .int .i64 b]) (hC : Ext w F) (h6 : tmps[2]? = some (.pointer (some ⟨n, 0, none⟩))) (h7 : tmps[3]? = some (.bool k)) (X Y : Int) (C : Bool) (hX : X = a) (hY : Y = b) (hK : C = k) :
    bodyPost Tryd.prog Tryd.f9 (fun e w' => e = .returned (.tuple #[Rm X Y, .bool C]) ∧ Ext w w') Exit.ret ⟨tmps, []⟩ F := by
  subst hX; subst hY; subst hK
  obtain ⟨⟨g0, g1⟩, _⟩ := B.two
  exact bodyPost_ret (v := .tuple #[Rm X Y, .bool C]) (by simp [results, Tryd.results9, go_sem, h6, h7, g0, g1]) rfl ⟨rfl, hC⟩
theorem rmz_done {n : Nat} {w F : World} {tmps : Array Value} {a b : Int} {k : Bool} (B : Box F n [.int .i64 a, .int .i64 b]) (hC : Ext w F) (h6 : tmps[2]? = some (.pointer (some ⟨n, 0, none⟩))) (h7 : tmps[3]? = some (.bool k)) (X Y : Int) (C : Bool) (hX : X = a) (hY : Y = b) (hK : C = k) :
    bodyPost Tryd.prog Tryd.f13 (fun e w' => e = .returned (.tuple #[Rm X Y, .bool C]) ∧ Ext w w') Exit.ret ⟨tmps, []⟩ F := by
  subst hX; subst hY; subst hK
  obtain ⟨⟨g0, g1⟩, _⟩ := B.two
  exact bodyPost_ret (v := .tuple #[Rm X Y, .bool C]) (by simp [results, Tryd.results13, go_sem, h6, h7, g0, g1]) rfl ⟨rfl, hC⟩

set_option maxHeartbeats 2000000 in
theorem readRoom_impl (l : List UInt8) (w : World) (hE : Env w) (hl : l.length ≤ 2000000) :
    Calls Tryd.prog 9 #[St l] w fun e w' => e = .returned (.tuple #[Rm (mdK l) (mdR l), .bool (mdB l)]) ∧ Ext w w' := by
  obtain ⟨W0, hW0⟩ : ∃ W0, W0 = w.alloc (.cells #[.int .i64 0, .int .i64 0] 25) := ⟨_, rfl⟩
  have hX : Ext w W0 := hW0 ▸ (Ext.refl w).alloc _
  have B0 := Lib.hid (show Box W0 w.heap.size [.int .i64 0, .int .i64 0] from hW0 ▸ Box.new2 rfl)
  have HE := Lib.hid (hE.ext hX)
  have HR := Lib.hid (md_impl l)
  obtain ⟨l1, l2⟩ := cut_len 32 l
  clear hE
  go_enter Tryd.func9, Tryd.ntmps9
  go_wp2_with fail
  rw [← hW0]
  clear hW0
  refine (cut_any l 32 _ HE.out (by omega)).mono ?_
  rintro e w1 ⟨rfl, hz⟩
  replace HE := Lib.hid (HE.out.ext hz)
  go_wp2_with fail
  refine (numberOf_any (cA 32 l) _ HE.out (by omega)).mono ?_
  rintro e w2 ⟨rfl, hy⟩
  replace HE := Lib.hid (HE.out.ext hy)
  replace hz := hz.trans hy
  clear hy
  go_wp2_with fail
  refine (roomReasonNamed_any (cB 32 l) _).mono ?_
  rintro e w3 ⟨rfl, hy⟩
  replace HE := Lib.hid (HE.out.ext hy)
  replace hz := hz.trans hy
  clear hy l1 l2
  generalize pI (cA 32 l) = k at *
  generalize imN (cB 32 l) = r at *
  obtain ⟨W4, hW4⟩ : ∃ W4, W4 = w3.alloc (.cells #[.int .i64 k, .int .i64 r] 25) := ⟨_, rfl⟩
  have h4 : Ext w3 W4 := hW4 ▸ (Ext.refl w3).alloc _
  have B4 := Lib.hid (show Box W4 w3.heap.size [.int .i64 k, .int .i64 r] from hW4 ▸ Box.new2 rfl)
  replace hz := hz.trans h4
  replace HE := Lib.hid (HE.out.ext h4)
  obtain ⟨⟨k0, k1⟩, _⟩ := B4.out.two
  go_upto_region 3 with fail
  rw [← hW4]
  clear hW4 h4
  go_wp2_with fail
  refine (roomValid_any _ _ _).mono ?_
  rintro e w5 ⟨rfl, hy⟩
  replace HE := Lib.hid (HE.out.ext hy)
  replace B4 := Lib.hid (B4.out.ext hy)
  replace hz := hz.trans hy
  clear hy k0 k1
  cases hv : rmB k r
  · have HN := Lib.hid (md_no (HR.out.trans (if_neg (fun h => by rw [hv] at h; cases h.1))))
    obtain ⟨⟨r0, r1⟩, r2, r3⟩ := (B0.out.ext hz).two
    go_wp2
    exact rmr_done (B0.out.ext hz).set2 (((hX.trans hz).setNew (by simp) _).setNew (by simp) _) rfl rfl _ _ _ HN.out.1 HN.out.2.1 HN.out.2.2
  obtain ⟨⟨k0, k1⟩, _⟩ := B4.out.two
  by_cases ht : mtT k r = l
  · have HY := Lib.hid (md_yes (HR.out.trans (if_pos ⟨hv, ht⟩)))
    have HT := Lib.hid ht
    clear ht
    go_wp2_with fail
    refine (roomText_impl _ _ _ HE.out.1).mono ?_
    rintro e w6 ⟨rfl, hy⟩
    replace B4 := Lib.hid (B4.out.ext hy)
    replace hz := hz.trans hy
    clear hy k0 k1
    rw [HT.out]
    obtain ⟨⟨k0, k1⟩, _⟩ := B4.out.two
    obtain ⟨⟨r0, r1⟩, r2, r3⟩ := (B0.out.ext hz).two
    go_wp2
    exact rmr_done (B0.out.ext hz).set2 (((hX.trans hz).setNew (by simp) _).setNew (by simp) _) rfl rfl _ _ _ HY.out.1 HY.out.2.1 HY.out.2.2
  · have HN := Lib.hid (md_no (HR.out.trans (if_neg (fun h => ht h.2))))
    have hne : (mtT k r == l) = false := beq_eq_false_iff_ne.2 ht
    clear ht
    go_wp2_with fail
    refine (roomText_impl _ _ _ HE.out.1).mono ?_
    rintro e w6 ⟨rfl, hy⟩
    replace hz := hz.trans hy
    clear hy k0 k1
    generalize mtT k r = T at *
    obtain ⟨⟨r0, r1⟩, r2, r3⟩ := (B0.out.ext hz).two
    go_wp2
    exact rmr_done (B0.out.ext hz).set2 (((hX.trans hz).setNew (by simp) _).setNew (by simp) _) rfl rfl _ _ _ HN.out.1 HN.out.2.1 HN.out.2.2

/-- No pair ahead of this one has the text. -/
def NoM (l : List UInt8) (k r : Int) : Prop := ∀ p ∈ prM, (p.1 < k ∨ p.1 = k ∧ p.2 < r) → mtL p.1 p.2 ≠ l
theorem nm_zero (l : List UInt8) : NoM l 0 0 := fun p hp h => by
  have : ∀ p ∈ prM, 0 ≤ p.1 ∧ 0 ≤ p.2 := by decide
  have := this p hp
  omega
theorem nm_row {l : List UInt8} {k : Int} (h : NoM l k 5) : NoM l (k + 1) 0 := fun p hp g => by
  have : ∀ p ∈ prM, 0 ≤ p.1 ∧ 0 ≤ p.2 ∧ p.2 ≤ 4 := by decide
  have := this p hp
  exact h p hp (by omega)
theorem nm_step {l : List UInt8} {k r : Int} (h : NoM l k r) (hne : ¬ (rmB k r = true ∧ mtT k r = l)) : NoM l k (r + 1) := fun p hp g => by
  by_cases e : p.1 = k ∧ p.2 = r
  · obtain ⟨rfl, rfl⟩ := e
    intro q
    refine hne ⟨rm_prM p hp, ?_⟩
    unfold mtT
    rw [if_pos (rm_prM p hp)]
    exact q
  · exact h p hp (by omega)
theorem nm_all {l : List UInt8} (h : NoM l 3 0) : mdF l = none := md_none fun p hp => h p hp (by
  have : ∀ p ∈ prM, p.1 ≤ 2 := by decide
  have := this p hp
  omega)
def RelMo (W0 : World) (l : List UInt8) (i : Value) (wr : World) : Prop := ∃ k : Nat, i = .int .i64 k ∧ k ≤ 3 ∧ NoM l k 0 ∧ Ext W0 wr
def RelMi (W0 : World) (l : List UInt8) (k : Nat) (i : Value) (wr : World) : Prop := ∃ r : Nat, i = .int .i64 r ∧ r ≤ 5 ∧ NoM l k r ∧ Ext W0 wr

set_option maxRecDepth 100000 in
set_option maxHeartbeats 4000000 in
theorem readRoom_spec (l : List UInt8) (w : World) :
    Calls Tryd.prog 13 #[St l] w fun e w' => e = .returned (.tuple #[Rm (mdK l) (mdR l), .bool (mdB l)]) ∧ Ext w w' := by
  obtain ⟨W0, hW0⟩ : ∃ W0, W0 = w.alloc (.cells #[.int .i64 0, .int .i64 0] 25) := ⟨_, rfl⟩
  have hX : Ext w W0 := hW0 ▸ (Ext.refl w).alloc _
  have B0 := Lib.hid (show Box W0 w.heap.size [.int .i64 0, .int .i64 0] from hW0 ▸ Box.new2 rfl)
  go_enter Tryd.func13, Tryd.ntmps13
  go_wp2
  rw [← hW0]
  clear hW0
  go_loopw [4] (fun i wr => RelMo W0 l i wr) (fun i _ => 3 - (intOf i).toNat)
  case atStart => exact ⟨0, rfl, by omega, nm_zero l, Ext.refl _⟩
  case round =>
    obtain ⟨k, rfl, hk, hn, hx⟩ := hrel
    have HN := Lib.hid hn
    have HX := Lib.hid hx
    clear hn hx
    have T1 : IntKind.i64.wrap ((k : Int) + 1) = (k : Int) + 1 := IntWalk.i64_in _ (by omega)
    by_cases hk1 : k < 3
    · have k1 : (k : Int) ≤ 2 := by omega
      go_wp2
      go_loopw [5] (fun i wr => RelMi W0 l k i wr) (fun i _ => 5 - (intOf i).toNat)
      case atStart => exact ⟨0, rfl, by omega, HN.out, HX.out⟩
      case round =>
        obtain ⟨r, rfl, r6, hn, hx⟩ := hrel
        have HN2 := Lib.hid hn
        have HX2 := Lib.hid hx
        clear hn hx HX
        have T2 : IntKind.i64.wrap ((r : Int) + 1) = (r : Int) + 1 := IntWalk.i64_in _ (by omega)
        by_cases hr1 : r < 5
        · have r5 : (r : Int) ≤ 4 := by omega
          have PR := Lib.hid (fun w => isRoom_spec k r w)
          have PT := Lib.hid (fun w => roomText_spec k r w)
          have c0 : (wr.alloc (.cells #[.int .i64 k, .int .i64 r] 25)).cell? ⟨wr.heap.size, 0, none⟩ = some (.int .i64 k) := boxed 0 rfl rfl
          have HB := Lib.hid (show Box (wr.alloc (.cells #[.int .i64 k, .int .i64 r] 25)) wr.heap.size [.int .i64 k, .int .i64 r] from Box.new2 rfl)
          go_wp2_with fail
          refine (PR.out _).mono ?_
          rintro e w2 ⟨rfl, hy⟩
          have hz := Lib.hid (HX2.out.trans (((Ext.refl wr).alloc (.cells #[.int .i64 k, .int .i64 r] 25)).trans hy))
          replace HB := Lib.hid (HB.out.ext hy)
          clear hy c0
          obtain ⟨⟨k0, k2⟩, _⟩ := HB.out.two
          cases hv : rmB k r
          · have HS := Lib.hid (nm_step HN2.out (fun h => by rw [hv] at h; cases h.1))
            clear hv
            go_wp2
            go_roundw
            case rel => exact ⟨r + 1, by go_num, by omega, by have := HS.out; simpa using this, hz.out⟩
            case measure => simp [intOf]; omega
          by_cases ht : mtT k r = l
          · have HY := Lib.hid (md_yes (md_some hv ht))
            have HT := Lib.hid ht
            clear ht hv
            go_wp2_with fail
            refine (PT.out _).mono ?_
            rintro e w3 ⟨rfl, hy⟩
            replace hz := hz.out.trans hy
            clear k0 k2
            obtain ⟨⟨k0, k2⟩, _⟩ := (HB.out.ext hy).two
            obtain ⟨⟨r0, r3⟩, r4, r7⟩ := (B0.out.ext hz).two
            rw [HT.out]
            go_wp2
            exact rmz_done (B0.out.ext hz).set2 (((hX.trans hz).setNew (by simp) _).setNew (by simp) _) rfl rfl _ _ _ HY.out.1 HY.out.2.1 HY.out.2.2
          · have hne : (mtT k r == l) = false := beq_eq_false_iff_ne.2 ht
            have HS := Lib.hid (nm_step HN2.out (fun h => ht h.2))
            clear ht hv
            go_wp2_with fail
            refine (PT.out _).mono ?_
            rintro e w3 ⟨rfl, hy⟩
            replace hz := Lib.hid (hz.out.trans hy)
            clear hy k0 k2
            generalize mtT (k : Int) (r : Int) = T at *
            go_wp2
            go_roundw
            case rel => exact ⟨r + 1, by go_num, by omega, by have := HS.out; simpa using this, hz.out⟩
            case measure => simp [intOf]; omega
        · obtain rfl : r = 5 := by omega
          go_wp2
          go_roundw
          case rel => exact ⟨k + 1, by go_num, by omega, by have := nm_row HN2.out; simpa using this, HX2.out⟩
          case measure => simp [intOf]; omega
    · obtain rfl : k = 3 := by omega
      have HD := Lib.hid (md_no (nm_all HN.out))
      obtain ⟨⟨r0, r1⟩, r2, r3⟩ := (B0.out.ext HX.out).two
      go_wp2
      exact rmz_done (B0.out.ext HX.out).set2 (((hX.trans HX.out).setNew (by simp) _).setNew (by simp) _) rfl rfl _ _ _ HD.out.1 HD.out.2.1 HD.out.2.2

end Go.Proofs.YtcangdcakgcpaaaDoor.Rmx
