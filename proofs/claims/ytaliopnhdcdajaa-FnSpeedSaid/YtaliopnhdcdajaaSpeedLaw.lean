/- FnSpeed: for every code, the speed of the leg that is drawn is that of the reference model, and, unless it is the greatest one, the integer root of 10^6 times the square of its length divided by the square of its duration. No condition. -/
import Derived.Test.YtaliopnhdcdajaaDrawO
import Derived.Test.YtaliopnhdcdajaaSpd
import Derived.Test.YtaliopnhdcdajaaBig
import Derived.ChangeOld
import Derived.Below
import Derived.Lib.SmallJoins
import Derived.Deep.DeepCutAuto
namespace Go.Proofs.Ytaliopnhdcdajaa.fnSpeed
open Go.ChangeShapes Go.WideShapes Go.ChangeAt Go.RowKit
open Go.Proofs.Ytaliopnhdcdajaa.Kit Go.Proofs.Ytaliopnhdcdajaa.Num Go.Proofs.Ytaliopnhdcdajaa.Draw Go.Proofs.Ytaliopnhdcdajaa.Pts Go.Proofs.Ytaliopnhdcdajaa.Trk Go.Proofs.Ytaliopnhdcdajaa.Rt Go.Proofs.Ytaliopnhdcdajaa.Root
set_option linter.unusedVariables false
set_option linter.unusedSimpArgs false

set_option maxRecDepth 100000 in
set_option maxHeartbeats 2000000 in
theorem walk (c : Option Addr) (len cap : Nat) (zs : List Int) (w : World) (hr : IsRow .u8 w c len cap zs) :
    Calls Try.prog 8 #[.slice c len cap] w fun e w' => e = .returned (.bool true) ∧ Ext w w' := by
  have HB := Lib.hid hr.bytes
  clear hr
  by_cases hl : 4096 < len
  · have g := show bigB len = true from decide_eq_true hl
    go_enter Try.func8, Try.ntmps8
    go_wp2_with (go_at_call 28; refine (big_any _ _ _ _).mono ?_; rintro e w' ⟨rfl, rfl⟩)
    go_ret
    exact ⟨rfl, Ext.refl _⟩
  · have g := show bigB len = false from decide_eq_false hl
    go_enter Try.func8, Try.ntmps8
    go_wp2_with fail
    refine (big_any _ _ _ _).mono ?_
    rintro e w' ⟨rfl, rfl⟩
    go_wp2_with fail
    refine (drawSpeedOf_any c len cap _ HB.out (by omega)).mono ?_
    rintro e w1 ⟨gg, tc, n, l, rfl, h41, htc, hI, hx⟩
    obtain ⟨fs, rfl, hOwn⟩ := IntRow.own n hI
    have F1 := Lib.hid (hOwn.fxs (by unfold maxLen; omega))
    have X := Lib.hid hx
    clear HB g hl hx hI hOwn
    go_wp2_with fail
    refine (speedOf_impl _ _ _ _ _ (F1.out.ext (by repeat (first | exact Ext.refl _ | assumption | apply Ext.alloc | apply Ext.drew | (refine Ext.trans ?_ (by assumption)) | (refine Ext.setNew ?_ (by simp <;> omega) _))))).mono ?_
    rintro e w2 ⟨rfl, h⟩
    have bt : w2.cell? ⟨w1.heap.size, 0, none⟩ = some (.slice (some ⟨gg, 0, none⟩) fs.length tc) := h.cellOf (boxed 0 rfl rfl)
    have X2 := Lib.hid (((Ext.refl w1).alloc _).trans h)
    clear h
    go_wp2_with fail
    refine (speedOf_spec _ _ _ _ _ (F1.out.ext (X2.out.trans (by repeat (first | exact Ext.refl _ | assumption | apply Ext.alloc | apply Ext.drew | (refine Ext.trans ?_ (by assumption)) | (refine Ext.setNew ?_ (by simp <;> omega) _)))))).mono ?_
    rintro e w3 ⟨rfl, h⟩
    replace bt := h.cellOf bt
    replace X2 := Lib.hid (X2.out.trans h)
    clear h
    cases hv : trB fs
    · have e1 := spC_bad (l := l) hv
      go_wp2
      go_ret
      exact ⟨rfl, X.out.trans X2.out⟩
    by_cases hk : 0 ≤ l ∧ l + 1 < fs.length
    rotate_left
    · have e1 := spC_out hv hk
      clear hk
      go_wp2
      go_ret
      exact ⟨rfl, X.out.trans X2.out⟩
    have e1 := spC_in hv hk
    have e2 : spV fs l = spI fs l.toNat := by unfold spV; rw [if_pos e1]
    obtain ⟨k, rfl⟩ : ∃ k : Nat, l = (k : Int) := ⟨l.toNat, by omega⟩
    have hk2 : k + 1 < fs.length := by omega
    rw [show ((k : Int)).toNat = k by omega] at e2
    by_cases hm : spI fs k = 1000000
    · have e3 : (spI fs k == 1000000) = true := beq_iff_eq.2 hm
      clear hm hk
      go_wp2
      go_ret
      exact ⟨rfl, X.out.trans X2.out⟩
    have e3 : (spI fs k == 1000000) = false := beq_eq_false_iff_ne.2 hm
    clear hk
    have hq : spQ fs k < 1000000000000 := by
      by_cases h : spQ fs k < 1000000000000
      · exact h
      · exfalso
        apply hm
        have r6 : rt 1000000000000 = 1000000 := rt_eq (by decide) (by decide) (by decide)
        unfold spI
        split
        · rw [show spQ fs k = 1000000000000 by omega]; exact r6
        · exact r6
    have HS := Lib.hid (show spI fs k = rt (spQ fs k) by unfold spI; rw [if_pos (by omega)])
    have HQ := Lib.hid (show spQ fs k = sqI fs k * 1000000 / (durI fs k * durI fs k) from rfl)
    have hb := sqI_bounds hv hk2
    obtain ⟨⟨ca, cb, cc, cd⟩, d0, d1⟩ := leg_bounds hv hk2
    have p1 : ptB (fx fs k).x (fx fs k).y = true := by unfold ptB coB; rw [inB_yes ca.1 ca.2, inB_yes cb.1 cb.2]; rfl
    have p2 : ptB (fx fs (k + 1)).x (fx fs (k + 1)).y = true := by unfold ptB coB; rw [inB_yes cc.1 cc.2, inB_yes cd.1 cd.2]; rfl
    have q1 : sdC (fx fs k).x (fx fs k).y (fx fs (k + 1)).x (fx fs (k + 1)).y = 0 := if_pos ⟨p1, p2⟩
    have q2 : sdQ (fx fs k).x (fx fs k).y (fx fs (k + 1)).x (fx fs (k + 1)).y = sqI fs k := if_pos ⟨p1, p2⟩
    rcases (F1.out.ext X2.out).2 with h0 | ⟨b, off, hab, hcell⟩
    · rw [h0] at hk2; simp at hk2
    simp at hab
    obtain ⟨rfl, rfl⟩ := hab
    obtain ⟨c0, c1, c2⟩ := hcell k (by omega)
    obtain ⟨f0, f1, f2⟩ := hcell (k + 1) hk2
    obtain ⟨⟨h2, h40⟩, _⟩ := trB_yes hv
    have i0 : (0 : Int) ≤ (k : Int) := by omega
    have i1 : (k : Int) < (fs.length : Int) := by omega
    have i2 : (0 : Int) ≤ (k : Int) + 1 := by omega
    have i3 : (k : Int) + 1 < (fs.length : Int) := by omega
    have X0 : IntKind.i64.wrap ((k : Int) + 1) = (k : Int) + 1 := wrap_succ (by omega)
    have X1 : ((k : Int) + 1).toNat = k + 1 := by omega
    have T5 : IntKind.i64.wrap ((fx fs (k + 1)).t - (fx fs k).t) = durI fs k := by rw [IntWalk.i64_in _ (by unfold durI at d0 d1; omega)]; rfl
    have ebt : ∀ w', Ext w3 w' → w'.cell? ⟨w1.heap.size, 0, none⟩ = some (.slice (some ⟨gg, 0, none⟩) fs.length tc) := fun w' h => h.cellOf bt
    have ec0 : ∀ w', Ext w3 w' → w'.cell? ⟨gg, 0 + k * 3, none⟩ = some (.int .i64 (fx fs k).t) := fun w' h => h.cellOf c0
    have ec1 : ∀ w', Ext w3 w' → w'.cell? ⟨gg, 0 + k * 3 + 1, none⟩ = some (.int .i64 (fx fs k).x) := fun w' h => h.cellOf c1
    have ec2 : ∀ w', Ext w3 w' → w'.cell? ⟨gg, 0 + k * 3 + 2, none⟩ = some (.int .i64 (fx fs k).y) := fun w' h => h.cellOf c2
    have ee0 : ∀ w', Ext w3 w' → w'.cell? ⟨gg, 0 + (k + 1) * 3, none⟩ = some (.int .i64 (fx fs (k + 1)).t) := fun w' h => h.cellOf f0
    have ee1 : ∀ w', Ext w3 w' → w'.cell? ⟨gg, 0 + (k + 1) * 3 + 1, none⟩ = some (.int .i64 (fx fs (k + 1)).x) := fun w' h => h.cellOf f1
    have ee2 : ∀ w', Ext w3 w' → w'.cell? ⟨gg, 0 + (k + 1) * 3 + 2, none⟩ = some (.int .i64 (fx fs (k + 1)).y) := fun w' h => h.cellOf f2
    simp only [Nat.zero_add] at ec0 ec1 ec2 ee0 ee1 ee2
    clear c0 c1 c2 f0 f1 f2 hcell bt p1 p2 ca cb cc cd hm hv
    go_upto_region 10 with fail
    go_cut [9, 10] (fun s s2 wx => (∃ B, s = .pointer (some ⟨B, 0, none⟩) ∧ Box wx B [.int .i64 (fx fs k).t, .int .i64 (fx fs k).x, .int .i64 (fx fs k).y]) ∧ (∃ B, s2 = .pointer (some ⟨B, 0, none⟩) ∧ Box wx B [.int .i64 (fx fs (k + 1)).t, .int .i64 (fx fs (k + 1)).x, .int .i64 (fx fs (k + 1)).y]) ∧ Ext w3 wx)
    case first =>
      go_region_held3 (fun w' => Ext w3 w')
        (repeat (first | exact Ext.refl _ | assumption | apply Ext.drew | apply Ext.alloc))
        (fail)
      all_goals
        go_wp2_with fail
        go_meet
        exact ⟨⟨_, rfl, (by first | exact (Box.new3 (by simp)).drew | exact ((Box.new3 rfl).alloc _).drew)⟩, ⟨_, rfl, (by first | exact (Box.new3 (by simp)).drew | exact ((Box.new3 rfl).alloc _).drew)⟩, ((Ext.refl _).alloc _ |>.alloc _).drew⟩
    case rest =>
      obtain ⟨⟨B6, rfl, H6⟩, ⟨B7, rfl, H7⟩, hx⟩ := hcut
      have f0 := (H6 0 _ rfl).1
      have f1 := (H6 1 _ rfl).1
      have f2 := (H6 2 _ rfl).1
      have g0 := (H7 0 _ rfl).1
      have g1 := (H7 1 _ rfl).1
      have g2 := (H7 2 _ rfl).1
      replace X2 := Lib.hid (X2.out.trans hx)
      clear ebt ec0 ec1 ec2 ee0 ee1 ee2 hx H6 H7
      go_wp2_with fail
      refine (squareDistance_impl _ _ _ _ _).mono ?_
      rw [q1, q2]
      rintro e w4 ⟨rfl, h⟩
      replace f0 := h.cellOf f0
      replace g0 := h.cellOf g0
      replace X2 := Lib.hid (X2.out.trans h)
      clear h f1 f2 g1 g2
      obtain ⟨b0, b1⟩ := hb
      have D := mul_bd (x := durI fs k) (y := durI fs k) 1000000000 1000000000 (by omega) (by omega)
      have D1 : 1 ≤ durI fs k * durI fs k := by have := Int.mul_le_mul d0 d0 (by omega) (by omega); omega
      simp only [Int.reduceMul] at D
      have GQ : 1000000 * sqI fs k = sqI fs k * 1000000 := by omega
      have P0 : 0 ≤ sqI fs k * 1000000 / (durI fs k * durI fs k) := Int.ediv_nonneg (by omega) (by omega)
      rw [HQ.out] at hq HS
      clear HQ
      have e4 : (spI fs k == rt (sqI fs k * 1000000 / (durI fs k * durI fs k))) = true := beq_iff_eq.2 HS.out
      go_wp2_with fail
      refine (rootOf_in _ _ (by omega) (by omega)).mono ?_
      rintro e w5 ⟨rfl, rfl⟩
      go_wp2
      go_ret
      exact ⟨rfl, X.out.trans X2.out⟩

theorem own : ownKnob Try.prog.godebug = none := by kernel_rfl
theorem laidOut : laidOutB Try.prog = true := by kernel_rfl

set_option maxRecDepth 100000 in
theorem lifted (os : Os) (started : os.Started) (H : Type) (enc : TypeId × Value → H) :
    ReturnsInHanded {} Try.checked os 8 .any (Rows.fnSpeedSpec.pre6 enc Try.prog Try.f8 Rows.fnSpeedRow.domain false) (Rows.fnSpeedSpec.post enc Try.prog Try.f8 false true false false) := by
  refine returnsInHanded_of_change (C := Try.checked) own started (by kernel_rfl) Try.func8
    (ChangeSpec.witness6 (enc := enc) (C := Try.checked) false ⟨#[], #[.slice none 0 0], []⟩ 8 (by kernel_rfl) (by kernel_rfl) (by kernel_rfl) (by kernel_rfl)) ?_
  intro W base args ds gs before hval0 hW hcnd _
  have hval : ∀ (j : Nat) t v, Try.f8.params[j]? = some t → args[j]? = some v → Value.okWide Try.prog W .any base t v := hval0
  have hW' := hW
  obtain ⟨p, q, hA0, hV, rfl, hfz, hnd⟩ := hW
  have hA : DataW.TrodAll enc Try.prog W 0 (fun _ => true) true Try.f8.params.toList args.toList ds p := hA0
  rw [Try.params8] at hA hval
  obtain ⟨v0, vs0, d0, ds0, p0, q0, hargs, rfl, rfl, h0, r0⟩ := trodAll_cons hA
  obtain ⟨rfl, rfl, rfl⟩ := trodAll_nil r0
  obtain rfl : args = #[v0] := by cases args; simp_all
  obtain ⟨rfl, rfl⟩ := trodVars_none hV
  have k0 := h0
  have lt0 : ∀ x ∈ p0, x.block < W.heap.size := by obtain ⟨m, hm⟩ := k0; exact DataW.trod_lt m _ _ _ hm
  obtain ⟨a0, len0, cap0, rfl⟩ := okWide_slice Try.underlying61 (hval 0 61 v0 rfl rfl)
  obtain ⟨z0, w0⟩ : ∃ zs, IsRow .u8 W a0 len0 cap0 zs := by
    obtain ⟨fuel, hf⟩ := h0
    rcases open_ints Try.underlying61 Try.underlying5 (by kernel_rfl) hf with ⟨hcs, _⟩ | ⟨x, l, c, zs, hcs, _, hl, hm, hz, _, hcell, hwz⟩
    · simp [Value.cells] at hcs
      obtain ⟨rfl, rfl, rfl⟩ := hcs
      exact ⟨[], .inl ⟨rfl, rfl, rfl, rfl⟩⟩
    · simp [Value.cells] at hcs
      obtain ⟨rfl, rfl, rfl⟩ := hcs
      exact ⟨zs, .inr ⟨_, rfl, hl, hm, by simpa using hz, hcell, hwz⟩⟩
  clear hA0 hval0
  refine (walk a0 len0 cap0 z0 W w0).mono fun e W' ⟨he, hx⟩ => ?_
  have bel := hx.below
  subst he
  exact ⟨_, rfl, _, _, _, [], _, [], hW', trodAll_mk1 (shut_bool Try.underlying4 _), (trodAll_cons_mk (Below.trod laidOut (by kernel_rfl) (of_decide_eq_true (by kernel_rfl)) k0 bel lt0) trodAll_mk0), rfl, bel.frame _, fun h => by cases h⟩

theorem proved : Rows.FnSpeedSaid :=
  OpenClaim.holds_of_wide 8 Try.f8 rfl rfl rfl rfl rfl rfl rfl ⟨rfl, rfl, rfl, rfl, rfl⟩ rfl rfl rfl rfl rfl (by kernel_rfl) Try.func8 (by kernel_rfl)
    (of_decide_eq_true (by kernel_rfl)) (by unfold Func.isWrapper; first | (rw [if_pos (by decide +kernel)]; kernel_rfl) | (rw [if_neg (by decide +kernel)]; exact ⟨rfl, rfl⟩))
    (fun os started H enc _ => lifted os started H enc)

end Go.Proofs.Ytaliopnhdcdajaa.fnSpeed
