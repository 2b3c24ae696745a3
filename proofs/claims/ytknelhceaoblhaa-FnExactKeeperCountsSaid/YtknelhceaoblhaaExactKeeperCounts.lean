/- FnExactKeeperCounts: for every number of boats and every row of incidents, impl.KeeperCounts and spec.KeeperCounts answer the same, the row is as it was, and the answer has a row of its own. No condition. -/
import Derived.Test.YtknelhceaoblhaaKpc
import Derived.Test.YtknelhceaoblhaaIv
import Derived.Test.YtknelhceaoblhaaOpnI
import Derived.Test.YtknelhceaoblhaaClo
import Derived.ChangeOld
import Derived.Below
import Derived.Deep.DeepCutAuto
import Derived.Lib.SmallJoins
namespace Go.Proofs.Ytknelhceaoblhaa.fnExactKeeperCounts
open Go.ChangeShapes Go.WideShapes Go.ChangeAt Go.RowKit Go.PlainAid
open Go.Proofs.Ytknelhceaoblhaa.Num Go.Proofs.Ytknelhceaoblhaa.Kit Go.Proofs.Ytknelhceaoblhaa.Iv Go.Proofs.Ytknelhceaoblhaa.Rwz Go.Proofs.Ytknelhceaoblhaa.Kpw Go.Proofs.Ytknelhceaoblhaa.Kpc
set_option linter.unusedVariables false
set_option linter.unusedSimpArgs false

set_option maxRecDepth 100000 in
set_option maxHeartbeats 4000000 in
theorem walk (b : Int) (a : Option Addr) (cap : Nat) (xs : List I5) (w : World) (hf1 : Ivs w a xs) : Calls Try.prog 5 #[.int .i64 b, .slice a xs.length cap] w fun e w' => e = .returned (.bool true) ∧ Ext w w' := by
  have HF1 := Lib.hid hf1
  have HM1 := Lib.hid hf1.1
  clear hf1
  have KS := Lib.hid (fun (a : Option Addr) (cap : Nat) (w : World) (hf : Ivs w a xs) => counts_spec b a cap xs w hf)
  have KI := Lib.hid (fun (a : Option Addr) (cap : Nat) (w : World) (hf : Ivs w a xs) => counts_impl b a cap xs w hf)
  obtain ⟨ck, hck⟩ : ∃ ck, ck = kpC b xs := ⟨_, rfl⟩
  obtain ⟨zs, hzs⟩ : ∃ zs, zs = kpL b xs := ⟨_, rfl⟩
  have HP := Lib.hid (kl_len b xs)
  rw [← hzs] at HP
  rw [← hck, ← hzs] at KS KI
  clear hck hzs
  have HP2 := Lib.hid (show zs.length ≤ maxLen by unfold maxLen; have := HP.out; omega)
  have HP3 := Lib.hid (show zs.length ≤ 1000 by have := HP.out; omega)
  go_enter Try.func5, Try.ntmps5
  go_wp2_with fail
  refine (szIncidentS_any _ _ _ _ _ HM1.out (by omega) (by omega)).mono ?_
  rintro e z1 ⟨rfl, rfl⟩
  by_cases hl1 : (1048576 : Int) - xs.length < 0
  · rw [szI_neg hl1]
    go_wp2
    go_ret
    exact ⟨rfl, Ext.refl _⟩
  have hl1b : decide ((1048576 : Int) - xs.length < 0) = false := decide_eq_false hl1
  have HL1 := Lib.hid (show xs.length ≤ 1048576 by omega)
  rw [szI_pos hl1]
  have TT := Lib.hid (fun w' (h : Ext w w') => toIncidentS_any a cap xs w' (HF1.out.ext h) HL1.out)
  go_wp2_with fail
  refine (TT.out _ (Ext.refl _)).mono ?_
  rintro e w1 ⟨B1, L1, rfl, -, -, Q1, J1, hy⟩
  have X1 := Lib.hid hy
  clear hy
  go_wp2_with fail
  refine (KS.out _ _ _ (ivs_of Q1 J1 HM1.out)).mono ?_
  rintro e w2 ⟨v0, rfl, O0, hy⟩
  have X := Lib.hid (X1.out.trans hy)
  obtain ⟨a0, cap0, rfl, F0⟩ := O0.zxs HP2.out
  replace F0 := Lib.hid F0
  have EX := Lib.hid (Ext.refl w2)
  clear hy Q1 J1 O0 X1
  go_wp2_with fail
  refine (TT.out _ X.out).mono ?_
  rintro e w3 ⟨C1, L3, rfl, hC1, hL3, P3, J3, hy⟩
  have z3 := Ext.size hy
  replace EX := Lib.hid (EX.out.trans hy)
  replace P3 := Lib.hid P3
  have J := Lib.hid J3
  clear hy J3
  go_wp2_with fail
  refine (KI.out _ _ _ (ivs_of P3.out J.out HM1.out)).mono ?_
  rintro e w4 ⟨v1, rfl, O1, hy⟩
  replace EX := Lib.hid (EX.out.trans hy)
  replace P3 := Lib.hid (P3.out.ext hy)
  obtain ⟨a1, cap1, rfl, F1⟩ := O1.zxs HP2.out
  have P1 := Lib.hid O1
  clear hy O1
  go_wp2_with fail
  refine (eqInt64S_same _ _ _ _ _ _ F1 (F0.out.ext EX.out)).mono ?_
  rintro e w5 ⟨rfl, hy⟩
  replace EX := Lib.hid (EX.out.trans hy)
  replace P3 := Lib.hid (P3.out.ext hy)
  replace P1 := Lib.hid (P1.out.ext hy)
  clear hy F1
  go_wp2_with fail
  refine (TT.out _ (X.out.trans EX.out)).mono ?_
  rintro e w6 ⟨B6, L6, rfl, -, -, Q6, J6, hy⟩
  replace EX := Lib.hid (EX.out.trans hy)
  replace P3 := Lib.hid (P3.out.ext hy)
  replace P1 := Lib.hid (P1.out.ext hy)
  clear hy
  go_wp2_with fail
  refine (eqIncidentS_same _ _ _ _ _ _ (ivs_of P3.out J.out HM1.out) (ivs_of Q6 J6 HM1.out)).mono ?_
  rintro e w7 ⟨rfl, hy⟩
  replace EX := Lib.hid (EX.out.trans hy)
  replace P3 := Lib.hid (P3.out.ext hy)
  replace P1 := Lib.hid (P1.out.ext hy)
  clear hy Q6 J6
  have zn : decide ((1 : Int) + 5 * (xs.length : Int) < 0) = false := decide_eq_false (by omega)
  have zn2 : ¬ ((1 : Int) + 5 * (xs.length : Int) < 0) := by omega
  go_wp2_with fail
  refine (markIncidentS_any C1 _ xs.length 1 L3 _ hL3 P3.out HL1.out (by decide) (by decide)).mono ?_
  rintro e w8 ⟨rfl, -, h⟩
  replace EX := Lib.hid (h.ext EX.out hC1.1)
  replace P1 := Lib.hid (P1.out.chg h (P1.out.block hC1.2))
  clear h P3
  obtain ⟨_, _, e1, F1⟩ := P1.out.zxs HP2.out
  cases e1
  go_wp2_with fail
  refine (eqInt64S_same _ _ _ _ _ _ F1 (F0.out.ext EX.out)).mono ?_
  rintro e w9 ⟨rfl, hy⟩
  replace EX := Lib.hid (EX.out.trans hy)
  replace P1 := Lib.hid (P1.out.ext hy)
  clear hy F1
  go_wp2_with fail
  refine (markOwnZ_any _ _ _ 1 _ P1.out HP3.out (by decide) (by decide)).mono ?_
  rintro e w10 ⟨rfl, HH, h⟩
  replace EX := Lib.hid (h.ext EX.out z3)
  replace HH := Lib.hid HH
  clear h P1
  have zg : decide ((1 : Int) + (zs.length : Int) < 0) = false := decide_eq_false (by omega)
  have zg2 : ¬ ((1 : Int) + (zs.length : Int) < 0) := by omega
  go_wp2_with fail
  refine (heldOwnZ_any _ _ 1 _ HH.out HP3.out (by decide) (by decide)).mono ?_
  rintro e w11 ⟨rfl, rfl⟩
  go_wp2_with fail
  refine (TT.out _ (X.out.trans EX.out)).mono ?_
  rintro e w12 ⟨B12, L12, rfl, -, -, Q12, J12, hy⟩
  replace EX := Lib.hid (EX.out.trans hy)
  replace HH := Lib.hid (HH.out.ext hy)
  clear hy
  go_wp2_with fail
  refine (KI.out _ _ _ (ivs_of Q12 J12 HM1.out)).mono ?_
  rintro e w13 ⟨v2, rfl, O2, hy⟩
  obtain ⟨a2, cap2, rfl, F2⟩ := O2.zxs HP2.out
  replace EX := Lib.hid (EX.out.trans hy)
  replace HH := Lib.hid (HH.out.ext hy)
  clear hy O2 Q12 J12
  go_wp2_with fail
  refine (eqInt64S_same _ _ _ _ _ _ F2 (F0.out.ext EX.out)).mono ?_
  rintro e w14 ⟨rfl, hy⟩
  replace EX := Lib.hid (EX.out.trans hy)
  replace HH := Lib.hid (HH.out.ext hy)
  clear hy F2
  go_wp2_with fail
  refine (heldOwnZ_any _ _ 1 _ HH.out HP3.out (by decide) (by decide)).mono ?_
  rintro e w15 ⟨rfl, rfl⟩
  go_wp2
  go_ret
  exact ⟨rfl, X.out.trans EX.out⟩

theorem own : ownKnob Try.prog.godebug = none := by kernel_rfl
theorem laidOut : laidOutB Try.prog = true := Clo.laid

set_option maxRecDepth 100000 in
theorem lifted (os : Os) (started : os.Started) (H : Type) (enc : TypeId × Value → H) :
    ReturnsInHanded {} Try.checked os 5 .any (Rows.fnExactKeeperCountsSpec.pre6 enc Try.prog Try.f5 Rows.fnExactKeeperCountsRow.domain false) (Rows.fnExactKeeperCountsSpec.post enc Try.prog Try.f5 false true false false) := by
  refine returnsInHanded_of_change (C := Try.checked) own started (by kernel_rfl) Try.func5
    (ChangeSpec.witness6 (enc := enc) (C := Try.checked) false ⟨#[], #[.int .i64 0, .slice none 0 0], []⟩ 8 (by kernel_rfl) (by kernel_rfl) (by kernel_rfl) (by kernel_rfl)) ?_
  intro W base args ds gs before hval0 hW hcnd _
  have hval : ∀ (j : Nat) t v, Try.f5.params[j]? = some t → args[j]? = some v → Value.okWide Try.prog W .any base t v := hval0
  have hW' := hW
  obtain ⟨p, q, hA0, hV, rfl, hfz, hnd⟩ := hW
  have hA : DataW.TrodAll enc Try.prog W 0 (fun _ => true) true Try.f5.params.toList args.toList ds p := hA0
  rw [Try.params5] at hA hval
  obtain ⟨v0, vs0, d0, ds0, p0, q0, hargs, rfl, rfl, h0, r0⟩ := trodAll_cons hA
  obtain ⟨v1, vs1, d1, ds1, p1, q1, rfl, rfl, rfl, h1, r1⟩ := trodAll_cons r0
  obtain ⟨rfl, rfl, rfl⟩ := trodAll_nil r1
  obtain rfl : args = #[v0, v1] := by cases args; simp_all
  obtain ⟨rfl, rfl⟩ := trodVars_none hV
  have k0 := h0
  have lt0 : ∀ x ∈ p0, x.block < W.heap.size := by obtain ⟨m, hm⟩ := k0; exact DataW.trod_lt m _ _ _ hm
  obtain ⟨a0, rfl, _, _, w0⟩ := open_int Try.underlying2 (hval 0 2 v0 rfl rfl) h0
  have k1 := h1
  have lt1 : ∀ x ∈ p1, x.block < W.heap.size := by obtain ⟨m, hm⟩ := k1; exact DataW.trod_lt m _ _ _ hm
  obtain ⟨a1, cap1, xs1, rfl, w1⟩ := OpnI.open_incs Try.underlying44 Try.underlying69 (by kernel_rfl) ⟨rfl, by kernel_rfl⟩ ⟨rfl, by kernel_rfl⟩ ⟨rfl, by kernel_rfl⟩ ⟨rfl, by kernel_rfl⟩ ⟨rfl, by kernel_rfl⟩ Try.underlying2 Try.underlying2 Try.underlying2 Try.underlying2 Try.underlying2 (hval 1 44 v1 rfl rfl) h1
  clear hA0 hval0
  refine (walk a0 a1 cap1 xs1 W w1).mono fun e W' ⟨he, hx⟩ => ?_
  have bel := hx.below
  subst he
  exact ⟨_, rfl, _, _, _, [], _, [], hW', trodAll_mk1 (shut_bool Try.underlying4 _), (trodAll_cons_mk (Below.trod laidOut (by kernel_rfl) (of_decide_eq_true (by kernel_rfl)) k0 bel lt0) (trodAll_cons_mk (Below.trod laidOut (by kernel_rfl) (of_decide_eq_true (by kernel_rfl)) k1 bel lt1) trodAll_mk0)), rfl, bel.frame _, fun h => by cases h⟩

set_option maxRecDepth 100000 in
set_option maxHeartbeats 400000000 in
theorem closed : joinedFacts Try.pinned.checked.prog 5 Try.f5 Rows.fnExactKeeperCountsSpec Rows.fnExactKeeperCountsRow = true := by
  unfold joinedFacts
  simp only [Bool.and_eq_true]
  repeat' (with_reducible refine And.intro ?_ ?_)
  all_goals (first | (with_reducible exact Clo.laid) | (with_reducible exact Clo.rowed) | (with_reducible exact Clo.heard) | (with_reducible exact Clo.enter) | (rw [Clo.lifts]; rfl) | (rw [Clo.made]; rfl) | (as_aux_lemma => kernel_rfl))

theorem proved : Rows.FnExactKeeperCountsSaid :=
  OpenClaim.holds_of_wide 5 Try.f5 rfl rfl rfl rfl rfl rfl rfl ⟨rfl, rfl, rfl, rfl, rfl⟩ rfl rfl rfl rfl rfl (by as_aux_lemma => kernel_rfl) Try.func5 closed
    (of_decide_eq_true (by as_aux_lemma => kernel_rfl)) (by unfold Func.isWrapper; first | (rw [if_pos (by decide +kernel)]; kernel_rfl) | (rw [if_neg (by decide +kernel)]; exact ⟨rfl, rfl⟩))
    (fun os started H enc _ => lifted os started H enc)

end Go.Proofs.Ytknelhceaoblhaa.fnExactKeeperCounts
