/- Parts of this claim in one text: Crp, RulT, Rtx, Rtx2. -/
import Derived.Test.YtlheppblioglpaaGreatDoorRead
import Derived.Test.YtlheppblioglpaaGreatDoorCrw
import Derived.Test.YtlheppblioglpaaGreatDoorTxtMath
import Derived.Test.YtlheppblioglpaaGreatDoorNum
import Derived.Test.YtlheppblioglpaaGreatDoorOrd
import Derived.Deep.LoopGhost
import Derived.Laws.EntriesVeiled
import Derived.Test.YtlheppblioglpaaGreatDoorCel
import Derived.Deep.DeepCutAuto

/- Reading a course's text (impl): words, numbers, sides. -/
namespace Go.Proofs.YtlheppblioglpaaGreatDoor.Crs
open Go.ChangeShapes Go.WideShapes Go.ChangeAt Go.RowKit
open Go.Proofs.YtlheppblioglpaaGreatDoor.Num Go.Proofs.YtlheppblioglpaaGreatDoor.Kit Go.Proofs.YtlheppblioglpaaGreatDoor.Txt Go.Proofs.YtlheppblioglpaaGreatDoor.TxtMath
set_option linter.unusedVariables false
set_option linter.unusedSimpArgs false

theorem parseInt_any (l : List UInt8) (w : World) (hE : Env w) (hl : l.length ≤ 2000000) :
    Calls Tryz.prog 41 #[St l, .int .i64 10, .int .i64 64] w fun e w' =>
      (e = .returned (.tuple #[.int .i64 (pI l), .nilIface]) ∧ Ext w w') ∨ (pI l = 0 ∧ ∃ (v : Int) (T : TypeId) (a : Addr), e = .returned (.tuple #[.int .i64 v, .iface T (.pointer (some a))]) ∧ Ext w w') := by
  have hsz : (⟨l.toArray⟩ : ByteArray).size = l.length := by simp [ByteArray.size]
  rcases h : Lib.parseIntB 64 l with u | _ | _
  · refine (Tryz.strconv_ParseInt_10_at64_ok ⟨l.toArray⟩ (by rw [hsz]; omega) u h w).mono fun e w' ⟨he, hw⟩ => .inl ⟨by unfold pI; rw [h]; exact he, ?_⟩
    rcases hw with rfl | ⟨t, rfl⟩
    · exact Ext.refl _
    · exact bytesWorld_ext _ _ _
  · obtain ⟨tp, p, hv⟩ := hE.2.2.1
    exact (Tryz.strconv_ParseInt_10_at64_syntax_var ⟨l.toArray⟩ (by rw [hsz]; omega) h tp p w hv).mono fun e w' ⟨N, he, _, _, hb⟩ => .inr ⟨by unfold pI; rw [h], _, _, _, he, hb⟩
  · obtain ⟨tp, p, hv⟩ := hE.2.2.2
    exact (Tryz.strconv_ParseInt_10_at64_range_var ⟨l.toArray⟩ (by rw [hsz]; omega) h tp p w hv).mono fun e w' ⟨N, he, _, _, hb⟩ => .inr ⟨by unfold pI; rw [h], _, _, _, he, hb⟩

theorem numberOf_any (l : List UInt8) (w : World) (hE : Env w) (hl : l.length ≤ 2000000) : Calls Tryz.prog 20 #[St l] w fun e w' => e = .returned (.int .i64 (pI l)) ∧ Ext w w' := by
  have K := Lib.hid (parseInt_any l w hE hl)
  go_enter Tryz.func20, Tryz.ntmps20
  go_wp2_with fail
  refine K.out.mono ?_
  rintro e w1 (⟨rfl, hx⟩ | ⟨h0, v, T, a, rfl, hx⟩)
  · go_wp2
    go_ret
    exact ⟨rfl, hx⟩
  · go_wp2
    go_ret
    exact ⟨congrArg (fun n => Ending.returned (Value.int .i64 n)) h0.symm, hx⟩

end Go.Proofs.YtlheppblioglpaaGreatDoor.Crs

/- The texts of rulings (chapter 10): words, and that they are read back. No program is named here. -/
namespace Go.Proofs.YtlheppblioglpaaGreatDoor.RulT
open Go.Proofs.YtlheppblioglpaaGreatDoor.Num Go.Proofs.YtlheppblioglpaaGreatDoor.TxtMath Go.Proofs.YtlheppblioglpaaGreatDoor.Crs
set_option linter.unusedVariables false
set_option linter.unusedSimpArgs false

abbrev wTurning : List UInt8 := [116, 117, 114, 110, 105, 110, 103]
abbrev wAstern : List UInt8 := [97, 115, 116, 101, 114, 110]
abbrev wWindward : List UInt8 := [119, 105, 110, 100, 119, 97, 114, 100]
abbrev wUnclear : List UInt8 := [117, 110, 99, 108, 101, 97, 114]
abbrev wPortR : List UInt8 := [112, 111, 114, 116]
/-- The word of a reason. -/
def rwW (r : Int) : List UInt8 := if r = 1 then wTurning else if r = 2 then wPortR else if r = 3 then wAstern else if r = 4 then wWindward else wUnclear
/-- Is a ruling valid? -/
def rvB (k r : Int) : Bool := inB k 0 2 && (inB r 1 5 && ((k == 0) == (r == 5)))
/-- The digit of a number below ten. -/
def dgK (k : Int) : UInt8 := UInt8.ofNat (48 + k.toNat)
def rtL (k r : Int) : List UInt8 := dgK k :: 32 :: rwW r
/-- The text of a ruling. -/
def rtT (k r : Int) : List UInt8 := if rvB k r = true then rtL k r else []
def prs : List (Int × Int) := [(0, 5), (1, 1), (1, 2), (1, 3), (1, 4), (2, 1), (2, 2), (2, 3), (2, 4)]
theorem rv_mem {k r : Int} (h : rvB k r = true) : (k, r) ∈ prs := by
  unfold rvB at h
  rw [Bool.and_eq_true, Bool.and_eq_true] at h
  obtain ⟨h1, h2, h3⟩ := h
  have hk := of_inB h1
  have hr := of_inB h2
  obtain rfl | rfl | rfl : k = 0 ∨ k = 1 ∨ k = 2 := by omega
  all_goals
    obtain rfl | rfl | rfl | rfl | rfl : r = 1 ∨ r = 2 ∨ r = 3 ∨ r = 4 ∨ r = 5 := by omega
    all_goals first
    | (exfalso; revert h3; decide)
    | simp [prs]
theorem rv_prs : ∀ p ∈ prs, rvB p.1 p.2 = true := by decide
/-- The ruling that has a text. -/
def rdF (l : List UInt8) : Option (Int × Int) := prs.find? fun p => rtL p.1 p.2 == l
theorem rd_same : ∀ p ∈ prs, rdF (rtL p.1 p.2) = some p := by decide
theorem rd_none {l : List UInt8} (h : ∀ p ∈ prs, rtL p.1 p.2 ≠ l) : rdF l = none := by
  unfold rdF
  rw [List.find?_eq_none]
  intro p hp
  simpa using h p hp
theorem rd_some {l : List UInt8} {k r : Int} (hv : rvB k r = true) (h : rtT k r = l) : rdF l = some (k, r) := by
  unfold rtT at h
  rw [if_pos hv] at h
  rw [← h]
  exact rd_same _ (rv_mem hv)
def rdK (l : List UInt8) : Int := match rdF l with | some p => p.1 | none => 0
def rdR (l : List UInt8) : Int := match rdF l with | some p => p.2 | none => 0
def rdB (l : List UInt8) : Bool := (rdF l).isSome
theorem rd_yes {l : List UInt8} {p : Int × Int} (h : rdF l = some p) : rdK l = p.1 ∧ rdR l = p.2 ∧ rdB l = true := by unfold rdK rdR rdB; rw [h]; exact ⟨rfl, rfl, rfl⟩
theorem rd_no {l : List UInt8} (h : rdF l = none) : rdK l = 0 ∧ rdR l = 0 ∧ rdB l = false := by unfold rdK rdR rdB; rw [h]; exact ⟨rfl, rfl, rfl⟩
/-- The number of a word among the words of the reasons. -/
def ixN (w : List UInt8) : Int := if w = [] then 0 else if w = wTurning then 1 else if w = wPortR then 2 else if w = wAstern then 3 else if w = wWindward then 4 else if w = wUnclear then 5 else -1
theorem cut_rt : ∀ p ∈ prs, cA 32 (rtL p.1 p.2) = [dgK p.1] ∧ cB 32 (rtL p.1 p.2) = rwW p.2 := by decide
theorem pI_dig : ∀ k ∈ ([0, 1, 2] : List Int), pI [dgK k] = k := by decide
theorem pI_prs : ∀ p ∈ prs, pI [dgK p.1] = p.1 := by
  intro p hp
  refine pI_dig p.1 ?_
  revert p
  decide
theorem ix_prs : ∀ p ∈ prs, ixN (rwW p.2) = p.2 := by decide
/-- What the program reads: its own pieces, or nothing. -/
theorem rd_impl (l : List UInt8) : rdF l = if rvB (pI (cA 32 l)) (ixN (cB 32 l)) = true ∧ rtT (pI (cA 32 l)) (ixN (cB 32 l)) = l then some (pI (cA 32 l), ixN (cB 32 l)) else none := by
  by_cases h : rvB (pI (cA 32 l)) (ixN (cB 32 l)) = true ∧ rtT (pI (cA 32 l)) (ixN (cB 32 l)) = l
  · rw [if_pos h]
    exact rd_some h.1 h.2
  · rw [if_neg h]
    refine rd_none fun p hp e => h ?_
    obtain ⟨c1, c2⟩ := cut_rt p hp
    rw [e] at c1 c2
    rw [c1, c2, pI_prs p hp, ix_prs p hp]
    refine ⟨rv_prs p hp, ?_⟩
    unfold rtT
    rw [if_pos (rv_prs p hp)]
    exact e

end Go.Proofs.YtlheppblioglpaaGreatDoor.RulT

/- The texts of rulings (chapter 10): RulingText of both. -/
namespace Go.Proofs.YtlheppblioglpaaGreatDoor.Rtx
open Go.ChangeShapes Go.WideShapes Go.ChangeAt Go.RowKit
open Go.Proofs.YtlheppblioglpaaGreatDoor.Num Go.Proofs.YtlheppblioglpaaGreatDoor.Kit Go.Proofs.YtlheppblioglpaaGreatDoor.Txt Go.Proofs.YtlheppblioglpaaGreatDoor.TxtMath Go.Proofs.YtlheppblioglpaaGreatDoor.RulT
set_option linter.unusedVariables false
set_option linter.unusedSimpArgs false

abbrev Ru (k r : Int) : Value := .agg #[.int .i64 k, .int .i64 r]
theorem hullNumber_any (n : Int) (w : World) : Calls Tryz.prog 43 #[.int .i64 n] w fun e w' => e = .returned (.bool (inB n 0 2)) ∧ w = w' := by
  by_cases h1 : 0 ≤ n
  · by_cases h2 : n ≤ 2
    · have H := Lib.hid (inB_yes h1 h2)
      go_enter Tryz.func43, Tryz.ntmps43
      go_wp2
      go_ret
      exact ⟨ret_bool H.out, rfl⟩
    · have H := Lib.hid (inB_no (n := n) (lo := 0) (hi := 2) (fun h => h2 h.2))
      go_enter Tryz.func43, Tryz.ntmps43
      go_wp2
      go_ret
      exact ⟨ret_bool H.out, rfl⟩
  · have H := Lib.hid (inB_no (n := n) (lo := 0) (hi := 2) (fun h => h1 h.1))
    go_enter Tryz.func43, Tryz.ntmps43
    go_wp2
    go_ret
    exact ⟨ret_bool H.out, rfl⟩
theorem isReason_any (n : Int) (w : World) : Calls Tryz.prog 44 #[.int .i64 n] w fun e w' => e = .returned (.bool (inB n 1 5)) ∧ w = w' := by
  by_cases h1 : 1 ≤ n
  · by_cases h2 : n ≤ 5
    · have H := Lib.hid (inB_yes h1 h2)
      go_enter Tryz.func44, Tryz.ntmps44
      go_wp2
      go_ret
      exact ⟨ret_bool H.out, rfl⟩
    · have H := Lib.hid (inB_no (n := n) (lo := 1) (hi := 5) (fun h => h2 h.2))
      go_enter Tryz.func44, Tryz.ntmps44
      go_wp2
      go_ret
      exact ⟨ret_bool H.out, rfl⟩
  · have H := Lib.hid (inB_no (n := n) (lo := 1) (hi := 5) (fun h => h1 h.1))
    go_enter Tryz.func44, Tryz.ntmps44
    go_wp2
    go_ret
    exact ⟨ret_bool H.out, rfl⟩
theorem rv_no1 {k r : Int} (h : inB k 0 2 = false) : rvB k r = false := by unfold rvB; rw [h]; rfl
theorem rv_no2 {k r : Int} (h : inB r 1 5 = false) : rvB k r = false := by unfold rvB; rw [h]; simp
theorem rv_last {k r : Int} (h : inB k 0 2 = true) (g : inB r 1 5 = true) : rvB k r = ((k == 0) == (r == 5)) := by unfold rvB; rw [h, g]; rfl

theorem ruValid_any (k r : Int) (w : World) : Calls Tryz.prog 22 #[Ru k r] w fun e w' => e = .returned (.bool (rvB k r)) ∧ Ext w w' := by
  cases h1 : inB k 0 2
  · have H := Lib.hid (rv_no1 (r := r) h1)
    go_enter Tryz.func22, Tryz.ntmps22
    go_wp2_with (first | (go_at_call 43; refine (hullNumber_any _ _).mono ?_; rintro e w1 ⟨rfl, rfl⟩) | (go_at_call 44; refine (isReason_any _ _).mono ?_; rintro e w1 ⟨rfl, rfl⟩))
    go_ret
    exact ⟨ret_bool H.out, (by repeat (first | exact Ext.refl _ | assumption | apply Ext.alloc | apply Ext.drew | (refine Ext.trans ?_ (by assumption)) | (refine Ext.setNew ?_ (by simp <;> omega) _)))⟩
  cases h2 : inB r 1 5
  · have H := Lib.hid (rv_no2 (k := k) h2)
    go_enter Tryz.func22, Tryz.ntmps22
    go_wp2_with (first | (go_at_call 43; refine (hullNumber_any _ _).mono ?_; rintro e w1 ⟨rfl, rfl⟩) | (go_at_call 44; refine (isReason_any _ _).mono ?_; rintro e w1 ⟨rfl, rfl⟩))
    go_ret
    exact ⟨ret_bool H.out, (by repeat (first | exact Ext.refl _ | assumption | apply Ext.alloc | apply Ext.drew | (refine Ext.trans ?_ (by assumption)) | (refine Ext.setNew ?_ (by simp <;> omega) _)))⟩
  · have H := Lib.hid (rv_last h1 h2)
    cases h3 : (k == 0) <;> cases h4 : (r == 5)
    all_goals
      have H2 := Lib.hid (H.out.trans (by rw [h3, h4]))
      go_enter Tryz.func22, Tryz.ntmps22
      go_wp2_with (first | (go_at_call 43; refine (hullNumber_any _ _).mono ?_; rintro e w1 ⟨rfl, rfl⟩) | (go_at_call 44; refine (isReason_any _ _).mono ?_; rintro e w1 ⟨rfl, rfl⟩))
      go_ret
      exact ⟨ret_bool H2.out, (by repeat (first | exact Ext.refl _ | assumption | apply Ext.alloc | apply Ext.drew | (refine Ext.trans ?_ (by assumption)) | (refine Ext.setNew ?_ (by simp <;> omega) _)))⟩

abbrev wordsV : Value := .agg #[St [], St wTurning, St wPortR, St wAstern, St wWindward, St wUnclear]
theorem words_impl (w : World) : Calls Tryz.prog 24 #[] w fun e w' => e = .returned wordsV ∧ Ext w w' := by
  go_enter Tryz.func24, Tryz.ntmps24
  go_wp2
  exact bodyPost_ret (v := wordsV) (by simp [results, Tryz.results24, go_sem]) rfl ⟨rfl, (by repeat (first | exact Ext.refl _ | assumption | apply Ext.alloc | apply Ext.drew | (refine Ext.trans ?_ (by assumption)) | (refine Ext.setNew ?_ (by simp <;> omega) _)))⟩
theorem wx_any {r : Int} (h1 : 1 ≤ r) (h5 : r ≤ 5) (w : World) : (Instr.index 54 wordsV (.int .i64 r)).run Tryz.prog w = .ok (St (rwW r)) w := by
  rcases (show r = 1 ∨ r = 2 ∨ r = 3 ∨ r = 4 ∨ r = 5 by omega) with rfl | rfl | rfl | rfl | rfl
  all_goals simp [Instr.index, run_underlying Tryz.underlying54, asIntOf, go_sem, rwW]
theorem decimalK_any (n : Int) (w : World) (h0 : 0 ≤ n) (h1 : n < 10) (ht : Tab w) : Calls Tryz.prog 23 #[.int .i64 n] w fun e w' => e = .returned (St [dgK n]) ∧ Ext w w' := by
  have K := Lib.hid (Tryz.strconv_FormatInt_10 n (by omega) (by omega) w ht)
  have HI := Lib.hid (show Lib.itoa n = [dgK n] by
    unfold dgK
    obtain ⟨u, rfl⟩ := Int.eq_ofNat_of_zero_le h0
    rw [Lib.itoa_nonneg, Lib.decDigits_one (by omega)]; simp)
  generalize Lib.itoa n = X at *
  go_enter Tryz.func23, Tryz.ntmps23
  go_wp2_with fail
  refine K.out.mono ?_
  rintro e w1 ⟨rfl, k, os, rfl⟩
  go_wp2
  go_ret
  exact ⟨st_eq HI.out.symm, grow_ext w k os⟩
theorem cat_ru {d : UInt8} {R l : List UInt8} (h : l = d :: 32 :: R) : Ending.returned (.string (({ data := #[d] } : ByteArray) ++ { data := #[32] } ++ { data := R.toArray })) = .returned (St l) := by
  rw [h, cat_eq, cat_eq]; simp
theorem rt_no {k r : Int} (h : rvB k r = false) : rtT k r = [] := by unfold rtT; rw [h]; rfl
theorem rt_yes {k r : Int} (h : rvB k r = true) : rtT k r = dgK k :: 32 :: rwW r := by unfold rtT; rw [if_pos h]; rfl
theorem rv_bd {k r : Int} (h : rvB k r = true) : (0 ≤ k ∧ k ≤ 2) ∧ 1 ≤ r ∧ r ≤ 5 := by
  unfold rvB at h
  rw [Bool.and_eq_true, Bool.and_eq_true] at h
  exact ⟨of_inB h.1, of_inB h.2.1⟩
theorem rw_len (r : Int) : (rwW r).length ≤ 8 := by
  unfold rwW
  repeat' split
  all_goals decide

set_option maxHeartbeats 1000000 in
theorem rulingText_impl (k r : Int) (w : World) (hE : Tab w) : Calls Tryz.prog 9 #[Ru k r] w fun e w' => e = .returned (St (rtT k r)) ∧ Ext w w' := by
  have HE := Lib.hid hE
  clear hE
  obtain ⟨W0, hW0⟩ : ∃ W0, W0 = w.alloc (.cells #[.int .i64 k, .int .i64 r] 34) := ⟨_, rfl⟩
  have hX : Ext w W0 := hW0 ▸ ((Ext.refl w).alloc _)
  have hs0 : W0.heap.size = w.heap.size + 1 := by rw [hW0]; simp
  have e00 : ∀ w', (Ext W0) w' → w'.cell? ⟨w.heap.size, 0, none⟩ = some (.int .i64 k) := fun w' h => h.cellOf (by rw [hW0]; exact boxed 0 rfl (by simp))
  have e01 : ∀ w', (Ext W0) w' → w'.cell? ⟨w.heap.size, 1, none⟩ = some (.int .i64 r) := fun w' h => h.cellOf (by rw [hW0]; exact boxed 1 rfl (by simp))
  go_enter Tryz.func9, Tryz.ntmps9
  go_wp2_with fail
  rw [← hW0]
  clear hW0
  refine (ruValid_any _ _ _).mono ?_
  rintro e w1 ⟨rfl, hz⟩
  replace hz : Ext W0 w1 := hz
  cases hv : rvB k r
  · have HT := Lib.hid (rt_no hv)
    go_wp2
    go_ret
    exact ⟨st_eq HT.out, hX.trans hz⟩
  have HT := Lib.hid (rt_yes hv)
  obtain ⟨⟨k0, k2⟩, r1, r5⟩ := rv_bd hv
  have hI := fun w => wx_any r1 r5 w
  have PD := Lib.hid (fun (w' : World) (h : Ext w1 w') => decimalK_any k w' k0 (by omega) (HE.out.ext (hX.trans (hz.trans h))))
  have L0 := rw_len r
  generalize rwW r = R at *
  replace e00 : ∀ w', Ext w1 w' → w'.cell? ⟨w.heap.size, 0, none⟩ = some (.int .i64 k) := fun w' h => e00 w' (hz.trans h)
  replace e01 : ∀ w', Ext w1 w' → w'.cell? ⟨w.heap.size, 1, none⟩ = some (.int .i64 r) := fun w' h => e01 w' (hz.trans h)
  have hr := Ext.refl w1
  have s0 : ¬ (9223372036854775807 < 2 + R.length) := by omega
  generalize dgK k = d at *
  go_wp2_with fail
  refine wp_region_held_drew (S := (fun w' => Ext w1 w')) (by kernel_rfl) (by (try dsimp only); first | go_keep | exact (Ext.refl _).drew | exact Res.new2.drew | exact Res.new4.drew | exact ResB.drew (by assumption) | exact ResC.drew (by assumption) | assumption | exact Ext.drew (by assumption) | exact Res.drew (by assumption)) (fun hHeld => ?_)
  refine Ord.K 0 6 ?_
  refine Ord.K 1 7 ?_
  refine Ord.K 5 11 ?_
  refine Ord.K 6 12 ?_
  (refine wpAnyH_ready (rs := [2]) (by kernel_rfl) (by simp) ?_; refine AllReadyH.cons rfl (fun K hK => ?_) AllReadyH.nil; go_simp; (first | (go_at_call 23; refine (PD.out _ (by assumption)).mono ?_; rintro e w4 ⟨rfl, hy⟩) | (go_at_call 24; refine (words_impl _).mono ?_; rintro e w4 ⟨rfl, hy⟩)); go_wp2_with fail; (refine hK.out _ _ (by first | assumption | exact Ext.trans (by assumption) hy | exact Res.ext (by assumption) hy | exact ResB.ext (by assumption) hy | exact ResC.ext (by assumption) hy | (go_split_ands; (repeat' apply And.intro) <;> exact Ext.cellOf hy (by assumption))) (fun hHeld => ?_)); clear hK K; (try simp only [Act.put, Ord.a, Ord.b, Ord.c]))
  refine Ord.K 3 9 ?_
  (refine wpAnyH_ready (rs := [4]) (by kernel_rfl) (by simp) ?_; refine AllReadyH.cons rfl (fun K hK => ?_) AllReadyH.nil; go_simp; (first | (go_at_call 23; refine (PD.out _ (by assumption)).mono ?_; rintro e w4 ⟨rfl, hy⟩) | (go_at_call 24; refine (words_impl _).mono ?_; rintro e w4 ⟨rfl, hy⟩)); go_wp2_with fail; (refine hK.out _ _ (by first | assumption | exact Ext.trans (by assumption) hy | exact Res.ext (by assumption) hy | exact ResB.ext (by assumption) hy | exact ResC.ext (by assumption) hy | (go_split_ands; (repeat' apply And.intro) <;> exact Ext.cellOf hy (by assumption))) (fun hHeld => ?_)); clear hK K; (try simp only [Act.put, Ord.a, Ord.b, Ord.c]))
  refine Ord.K 7 13 ?_
  refine Ord.K 8 14 ?_
  refine Ord.K 9 2 ?_
  refine wpAnyH_done (by kernel_rfl) ?_ _
  go_wp2
  go_ret
  exact ⟨cat_ru HT.out, hX.trans (hz.trans (by assumption))⟩

theorem lw_any (r : Int) (h1 : 1 ≤ r) (h5 : r ≤ 5) : ([St wTurning, St wPortR, St wAstern, St wWindward, St wUnclear] : List Value)[(r - 1).toNat]? = some (St (rwW r)) := by
  rcases (show r = 1 ∨ r = 2 ∨ r = 3 ∨ r = 4 ∨ r = 5 by omega) with rfl | rfl | rfl | rfl | rfl <;> rfl
end Go.Proofs.YtlheppblioglpaaGreatDoor.Rtx

/- Reading the text of a ruling (chapter 10), both. -/
namespace Go.Proofs.YtlheppblioglpaaGreatDoor.Rtx
open Go.ChangeShapes Go.WideShapes Go.ChangeAt Go.RowKit
open Go.Proofs.YtlheppblioglpaaGreatDoor.Num Go.Proofs.YtlheppblioglpaaGreatDoor.Kit Go.Proofs.YtlheppblioglpaaGreatDoor.Txt Go.Proofs.YtlheppblioglpaaGreatDoor.TxtMath Go.Proofs.YtlheppblioglpaaGreatDoor.RulT Go.Proofs.YtlheppblioglpaaGreatDoor.Crs
set_option linter.unusedVariables false
set_option linter.unusedSimpArgs false

def ws6 : List (List UInt8) := [[], wTurning, wPortR, wAstern, wWindward, wUnclear]
def wsx (j : Nat) : List UInt8 := ws6.getD j []
theorem ix_hit {l : List UInt8} {j : Nat} (hj : j < 6) (hd : ∀ i, i < j → wsx i ≠ l) (h : wsx j = l) : ixN l = j := by
  subst h
  rcases (show j = 0 ∨ j = 1 ∨ j = 2 ∨ j = 3 ∨ j = 4 ∨ j = 5 by omega) with rfl | rfl | rfl | rfl | rfl | rfl <;> decide
theorem ix_miss {l : List UInt8} (hd : ∀ i, i < 6 → wsx i ≠ l) : ixN l = -1 := by
  unfold ixN
  rw [if_neg (fun e => hd 0 (by omega) (by rw [e]; rfl)), if_neg (fun e => hd 1 (by omega) (by rw [e]; rfl)), if_neg (fun e => hd 2 (by omega) (by rw [e]; rfl)), if_neg (fun e => hd 3 (by omega) (by rw [e]; rfl)), if_neg (fun e => hd 4 (by omega) (by rw [e]; rfl)), if_neg (fun e => hd 5 (by omega) (by rw [e]; rfl))]
def RelWx (w : World) (l : List UInt8) (i : Value) (wr : World) : Prop := ∃ j : Nat, i = .int .i64 j ∧ j ≤ 6 ∧ (∀ k, k < j → wsx k ≠ l) ∧ Ext w wr

set_option maxHeartbeats 1000000 in
theorem index6_any (g : Nat) (l : List UInt8) (w : World) (hc : ∀ j, j < 6 → w.cell? ⟨g, j, none⟩ = some (St (wsx j))) :
    Calls Tryz.prog 42 #[.slice (some ⟨g, 0, none⟩) 6 6, St l] w fun e w' => e = .returned (.int .i64 (ixN l)) ∧ Ext w w' := by
  have HC := Lib.hid hc
  clear hc
  go_enter Tryz.func42, Tryz.ntmps42
  go_wp2
  go_loopw [8] (fun i wr => RelWx w l i wr) (fun i _ => 6 - (intOf i).toNat)
  case atStart => exact ⟨0, rfl, by omega, fun k hk => absurd hk (by omega), Ext.refl _⟩
  case round =>
    obtain ⟨j, rfl, hj, hd, hx⟩ := hrel
    have HD := Lib.hid hd
    have HX := Lib.hid hx
    clear hd hx
    by_cases hj1 : j < 6
    · have c0 := HX.out.cellOf (HC.out j hj1)
      have i0 : (0 : Int) ≤ (j : Int) := by omega
      have i1 : (j : Int) < 6 := by omega
      have T7 : IntKind.i64.wrap ((j : Int) + 1) = (j : Int) + 1 := IntWalk.i64_in _ (by omega)
      by_cases h : wsx j = l
      · have H := Lib.hid (ix_hit hj1 HD.out h)
        rw [h] at c0
        clear h
        go_wp2
        go_ret
        exact ⟨ret_int H.out, HX.out⟩
      · have hne : (l == wsx j) = false := beq_eq_false_iff_ne.2 (fun e => h e.symm)
        have H := Lib.hid h
        clear h
        obtain ⟨X, hX⟩ : ∃ X, X = wsx j := ⟨_, rfl⟩
        rw [← hX] at c0 hne
        clear hX
        go_wp2
        go_roundw
        case rel => exact ⟨j + 1, by go_num, by omega, fun k hk => by rcases Nat.lt_or_ge k j with g | g; exact HD.out k g; exact (show k = j by omega) ▸ H.out, HX.out⟩
        case measure => simp [intOf]; omega
    · obtain rfl : j = 6 := by omega
      have H := Lib.hid (ix_miss HD.out)
      go_wp2
      go_ret
      exact ⟨ret_int H.out, HX.out⟩

theorem reasonNamed_any (l : List UInt8) (w : World) : Calls Tryz.prog 21 #[St l] w fun e w' => e = .returned (.int .i64 (ixN l)) ∧ Ext w w' := by
  go_enter Tryz.func21, Tryz.ntmps21
  go_wp2_with fail
  refine (words_impl _).mono ?_
  rintro e w1 ⟨rfl, hx⟩
  have K := Lib.hid (index6_any w1.heap.size l (w1.alloc (.cells #[St [], St wTurning, St wPortR, St wAstern, St wWindward, St wUnclear] 54)) (fun j hj => by
    refine boxed j ?_ rfl
    rcases (show j = 0 ∨ j = 1 ∨ j = 2 ∨ j = 3 ∨ j = 4 ∨ j = 5 by omega) with rfl | rfl | rfl | rfl | rfl | rfl <;> rfl))
  go_wp2_with fail
  refine K.out.mono ?_
  rintro e w2 ⟨rfl, hy⟩
  go_wp2
  go_ret
  exact ⟨rfl, (hx.alloc _).trans hy⟩

theorem rr_done {n : Nat} {w F : World} {tmps : Array Value} {a b : Int} {k : Bool} (B : Box F n [.int .i64 a, .int .i64 b]) (hC : Ext w F) (h6 : tmps[2]? = some (.pointer (some ⟨n, 0, none⟩))) (h7 : tmps[3]? = some (.bool k)) (X Y : Int) (C : Bool) (hX : X = a) (hY : Y = b) (hK : C = k) :
    bodyPost Tryz.prog Tryz.f8 (fun e w' => e = .returned (.tuple #[Ru X Y, .bool C]) ∧ Ext w w') Exit.ret ⟨tmps, []⟩ F := by
  subst hX; subst hY; subst hK
  obtain ⟨⟨g0, g1⟩, _⟩ := B.two
  exact bodyPost_ret (v := .tuple #[Ru X Y, .bool C]) (by simp [results, Tryz.results8, go_sem, h6, h7, g0, g1]) rfl ⟨rfl, hC⟩
set_option maxHeartbeats 2000000 in
theorem readRuling_impl (l : List UInt8) (w : World) (hE : Env w) (hl : l.length ≤ 2000000) :
    Calls Tryz.prog 8 #[St l] w fun e w' => e = .returned (.tuple #[Ru (rdK l) (rdR l), .bool (rdB l)]) ∧ Ext w w' := by
  obtain ⟨W0, hW0⟩ : ∃ W0, W0 = w.alloc (.cells #[.int .i64 0, .int .i64 0] 34) := ⟨_, rfl⟩
  have hX : Ext w W0 := hW0 ▸ (Ext.refl w).alloc _
  have B0 := Lib.hid (show Box W0 w.heap.size [.int .i64 0, .int .i64 0] from hW0 ▸ Box.new2 rfl)
  have HE := Lib.hid (hE.ext hX)
  have HR := Lib.hid (rd_impl l)
  obtain ⟨l1, l2⟩ := cut_len 32 l
  clear hE
  go_enter Tryz.func8, Tryz.ntmps8
  go_wp2_with fail
  rw [← hW0]
  clear hW0
  refine (cut_any l 32 _ HE.out (by omega)).mono ?_
  rintro e w1 ⟨rfl, hz⟩
  replace HE := Lib.hid (HE.out.ext hz)
  go_wp2_with fail
  refine (numberOf_any (cA 32 l) _ HE.out (by omega)).mono ?_
  rintro e w2 ⟨rfl, hy⟩
  replace HE := Lib.hid (HE.out.ext hy)
  replace hz := hz.trans hy
  clear hy
  go_wp2_with fail
  refine (reasonNamed_any (cB 32 l) _).mono ?_
  rintro e w3 ⟨rfl, hy⟩
  replace HE := Lib.hid (HE.out.ext hy)
  replace hz := hz.trans hy
  clear hy l1 l2
  generalize pI (cA 32 l) = k at *
  generalize ixN (cB 32 l) = r at *
  obtain ⟨W4, hW4⟩ : ∃ W4, W4 = w3.alloc (.cells #[.int .i64 k, .int .i64 r] 34) := ⟨_, rfl⟩
  have h4 : Ext w3 W4 := hW4 ▸ (Ext.refl w3).alloc _
  have B4 := Lib.hid (show Box W4 w3.heap.size [.int .i64 k, .int .i64 r] from hW4 ▸ Box.new2 rfl)
  replace hz := hz.trans h4
  replace HE := Lib.hid (HE.out.ext h4)
  obtain ⟨⟨k0, k1⟩, _⟩ := B4.out.two
  go_upto_region 3 with fail
  rw [← hW4]
  clear hW4 h4
  go_wp2_with fail
  refine (ruValid_any _ _ _).mono ?_
  rintro e w5 ⟨rfl, hy⟩
  replace HE := Lib.hid (HE.out.ext hy)
  replace B4 := Lib.hid (B4.out.ext hy)
  replace hz := hz.trans hy
  clear hy k0 k1
  cases hv : rvB k r
  · have HN := Lib.hid (rd_no (HR.out.trans (if_neg (fun h => by rw [hv] at h; cases h.1))))
    obtain ⟨⟨r0, r1⟩, r2, r3⟩ := (B0.out.ext hz).two
    go_wp2
    exact rr_done (B0.out.ext hz).set2 (((hX.trans hz).setNew (by simp) _).setNew (by simp) _) rfl rfl _ _ _ HN.out.1 HN.out.2.1 HN.out.2.2
  obtain ⟨⟨k0, k1⟩, _⟩ := B4.out.two
  by_cases ht : rtT k r = l
  · have HY := Lib.hid (rd_yes (HR.out.trans (if_pos ⟨hv, ht⟩)))
    have HT := Lib.hid ht
    clear ht
    go_wp2_with fail
    refine (rulingText_impl _ _ _ HE.out.1).mono ?_
    rintro e w6 ⟨rfl, hy⟩
    replace B4 := Lib.hid (B4.out.ext hy)
    replace hz := hz.trans hy
    clear hy k0 k1
    rw [HT.out]
    obtain ⟨⟨k0, k1⟩, _⟩ := B4.out.two
    obtain ⟨⟨r0, r1⟩, r2, r3⟩ := (B0.out.ext hz).two
    go_wp2
    exact rr_done (B0.out.ext hz).set2 (((hX.trans hz).setNew (by simp) _).setNew (by simp) _) rfl rfl _ _ _ HY.out.1 HY.out.2.1 HY.out.2.2
  · have HN := Lib.hid (rd_no (HR.out.trans (if_neg (fun h => ht h.2))))
    have hne : (rtT k r == l) = false := beq_eq_false_iff_ne.2 ht
    clear ht
    go_wp2_with fail
    refine (rulingText_impl _ _ _ HE.out.1).mono ?_
    rintro e w6 ⟨rfl, hy⟩
    replace hz := hz.trans hy
    clear hy k0 k1
    generalize rtT k r = T at *
    obtain ⟨⟨r0, r1⟩, r2, r3⟩ := (B0.out.ext hz).two
    go_wp2
    exact rr_done (B0.out.ext hz).set2 (((hX.trans hz).setNew (by simp) _).setNew (by simp) _) rfl rfl _ _ _ HN.out.1 HN.out.2.1 HN.out.2.2

/-- No pair ahead of this one has the text. -/
def NoP (l : List UInt8) (k r : Int) : Prop := ∀ p ∈ prs, (p.1 < k ∨ p.1 = k ∧ p.2 < r) → rtL p.1 p.2 ≠ l
theorem np_zero (l : List UInt8) : NoP l 0 1 := fun p hp h => by
  have : ∀ p ∈ prs, 0 ≤ p.1 ∧ 1 ≤ p.2 := by decide
  have := this p hp
  omega
theorem np_row {l : List UInt8} {k : Int} (h : NoP l k 6) : NoP l (k + 1) 1 := fun p hp g => by
  have : ∀ p ∈ prs, 0 ≤ p.1 ∧ 1 ≤ p.2 ∧ p.2 ≤ 5 := by decide
  have := this p hp
  exact h p hp (by omega)
theorem np_step {l : List UInt8} {k r : Int} (h : NoP l k r) (hne : rtT k r ≠ l) (hl : l ≠ []) : NoP l k (r + 1) := fun p hp g => by
  by_cases e : p.1 = k ∧ p.2 = r
  · obtain ⟨rfl, rfl⟩ := e
    unfold rtT at hne
    rw [if_pos (rv_prs p hp)] at hne
    exact hne
  · exact h p hp (by omega)
theorem np_all {l : List UInt8} (h : NoP l 3 1) : rdF l = none := rd_none fun p hp => h p hp (by
  have : ∀ p ∈ prs, p.1 ≤ 2 := by decide
  have := this p hp
  omega)
theorem np_nil {l : List UInt8} (h : l = []) : rdF l = none := rd_none fun p hp => by rw [h]; unfold rtL; simp
theorem np_hit {l : List UInt8} {k r : Int} (h : rtT k r = l) (hl : l ≠ []) : rdF l = some (k, r) := by
  cases hv : rvB k r
  · rw [rt_no hv] at h; exact absurd h.symm hl
  · exact rd_some hv h
def RelKo (W0 : World) (l : List UInt8) (i : Value) (wr : World) : Prop := ∃ k : Nat, i = .int .i64 k ∧ k ≤ 3 ∧ (l ≠ [] → NoP l k 1) ∧ Ext W0 wr
def RelKi (W0 : World) (l : List UInt8) (k : Nat) (i : Value) (wr : World) : Prop := ∃ r : Nat, i = .int .i64 r ∧ 1 ≤ r ∧ r ≤ 6 ∧ (l ≠ [] → NoP l k r) ∧ Ext W0 wr

end Go.Proofs.YtlheppblioglpaaGreatDoor.Rtx
