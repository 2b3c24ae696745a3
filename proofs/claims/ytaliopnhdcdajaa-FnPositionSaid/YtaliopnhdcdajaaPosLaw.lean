/- FnPosition: for every code, the position and the leg at the time that is drawn are those of the reference model, the positions at the times of the leg's fixes are their points, and the position lies between them. No condition. -/
import Derived.Test.YtaliopnhdcdajaaDrawQ
import Derived.Test.YtaliopnhdcdajaaPosMath
import Derived.Test.YtaliopnhdcdajaaBig
import Derived.ChangeOld
import Derived.Below
import Derived.Lib.SmallJoins
import Derived.Deep.DeepCutAuto
namespace Go.Proofs.Ytaliopnhdcdajaa.fnPosition
open Go.ChangeShapes Go.WideShapes Go.ChangeAt Go.RowKit
open Go.Proofs.Ytaliopnhdcdajaa.Kit Go.Proofs.Ytaliopnhdcdajaa.Num Go.Proofs.Ytaliopnhdcdajaa.Draw Go.Proofs.Ytaliopnhdcdajaa.Pts Go.Proofs.Ytaliopnhdcdajaa.Trk Go.Proofs.Ytaliopnhdcdajaa.Seg Go.Proofs.Ytaliopnhdcdajaa.Div
set_option linter.unusedVariables false
set_option linter.unusedSimpArgs false

theorem posFix (a : Option Addr) (cap : Nat) (fs : List F3) (k : Nat) (w : World) (hf : Fxs w a fs) (hcap : fs.length ≤ cap) (hv : trB fs = true) (hk : k < fs.length) :
    Calls Try.prog 30 #[Tr (.slice a fs.length cap), .int .i64 (fx fs k).t] w fun e w' => e = .returned (.tuple #[Pt (fx fs k).x (fx fs k).y, .int .i64 0]) ∧ Ext w w' := by
  have h := position_impl a cap fs (fx fs k).t w hf hcap
  obtain ⟨e1, e2, e3⟩ := po_fix hv hk
  rw [e1, e2, e3] at h
  exact h

set_option maxRecDepth 100000 in
set_option maxHeartbeats 8000000 in
theorem walk (c : Option Addr) (len cap : Nat) (zs : List Int) (w : World) (hr : IsRow .u8 w c len cap zs) :
    Calls Try.prog 7 #[.slice c len cap] w fun e w' => e = .returned (.bool true) ∧ Ext w w' := by
  have HB := Lib.hid hr.bytes
  clear hr
  by_cases hl : 4096 < len
  · have g := show bigB len = true from decide_eq_true hl
    go_enter Try.func7, Try.ntmps7
    go_wp2_with (go_at_call 28; refine (big_any _ _ _ _).mono ?_; rintro e w' ⟨rfl, rfl⟩)
    go_ret
    exact ⟨rfl, Ext.refl _⟩
  · have g := show bigB len = false from decide_eq_false hl
    go_enter Try.func7, Try.ntmps7
    go_wp2_with fail
    refine (big_any _ _ _ _).mono ?_
    rintro e w' ⟨rfl, rfl⟩
    go_wp2_with fail
    refine (drawPositionAt_any c len cap _ HB.out (by omega)).mono ?_
    rintro e w1 ⟨gg, tc, n, t, rfl, h41, htc, hI, hx⟩
    obtain ⟨fs, rfl, hOwn⟩ := IntRow.own n hI
    have F1 := Lib.hid (hOwn.fxs (by unfold maxLen; omega))
    have X := Lib.hid hx
    clear HB g hl hx hI hOwn
    go_wp2_with fail
    refine (position_impl _ _ _ _ _ (F1.out.ext (by repeat (first | exact Ext.refl _ | assumption | apply Ext.alloc | apply Ext.drew | (refine Ext.trans ?_ (by assumption)) | (refine Ext.setNew ?_ (by simp <;> omega) _)))) htc).mono ?_
    rintro e w2 ⟨rfl, h⟩
    have bt : w2.cell? ⟨w1.heap.size, 0, none⟩ = some (.slice (some ⟨gg, 0, none⟩) fs.length tc) := h.cellOf (boxed 0 rfl rfl)
    have X2 := Lib.hid (((Ext.refl w1).alloc _).trans h)
    clear h
    replace bt := one_on bt
    go_wp2_with fail
    refine (position_spec _ _ _ _ _ (F1.out.ext (X2.out.trans (by repeat (first | exact Ext.refl _ | assumption | apply Ext.alloc | apply Ext.drew | (refine Ext.trans ?_ (by assumption)) | (refine Ext.setNew ?_ (by simp <;> omega) _)))))).mono ?_
    rintro e w3 ⟨rfl, h⟩
    have p0 : w3.cell? ⟨w2.heap.size, 0, none⟩ = some (.int .i64 (poX fs t)) := h.cellOf (boxed 0 rfl rfl)
    have p1 : w3.cell? ⟨w2.heap.size, 1, none⟩ = some (.int .i64 (poY fs t)) := h.cellOf (boxed 1 rfl rfl)
    replace bt := h.cellOf (bt _)
    replace X2 := Lib.hid ((X2.out.alloc _).trans h)
    clear h
    replace bt := one_on bt
    replace p0 := one_on p0
    replace p1 := one_on p1
    by_cases hc : ctI fs t = 0
    rotate_left
    · have hc2 : (ctI fs t != 0) = true := by simpa using hc
      go_wp2
      go_ret
      exact ⟨rfl, X.out.trans (X2.out.trans (by repeat (first | exact Ext.refl _ | assumption | apply Ext.alloc | apply Ext.drew | (refine Ext.trans ?_ (by assumption)) | (refine Ext.setNew ?_ (by simp <;> omega) _))))⟩
    obtain ⟨hv, hlb⟩ := ctI_zero hc
    obtain ⟨⟨h2, h40⟩, _⟩ := trB_yes hv
    have hk := legOf_lt t h2
    have L := Lib.hid (show lgI fs t = (legOf fs t : Int) by unfold lgI; rw [if_pos hc])
    have PB := Lib.hid (pk_between hv hlb)
    have LI := Lib.hid (leg_in hv hlb)
    have PO := Lib.hid (po_yes hc)
    have HV := Lib.hid hv
    have LI1 := Lib.hid (fun w' (hw : Fxs w' (some ⟨gg, 0, none⟩) fs) => legAt_impl (some ⟨gg, 0, none⟩) tc fs t w' hw htc)
    have LS1 := Lib.hid (fun w' (hw : Fxs w' (some ⟨gg, 0, none⟩) fs) => legAt_spec (some ⟨gg, 0, none⟩) tc fs t w' hw)
    rw [hc, L.out] at LI1 LS1
    clear hv hlb L
    generalize legOf fs t = k at *
    go_wp2_with fail
    refine (LI1.out _ (F1.out.ext (X2.out.trans (by repeat (first | exact Ext.refl _ | assumption | apply Ext.alloc | apply Ext.drew | (refine Ext.trans ?_ (by assumption)) | (refine Ext.setNew ?_ (by simp <;> omega) _)))))).mono ?_
    rintro e w4 ⟨rfl, h⟩
    replace bt := h.cellOf (bt _)
    replace p0 := h.cellOf (p0 _)
    replace p1 := h.cellOf (p1 _)
    replace X2 := Lib.hid ((X2.out.alloc _).trans h)
    clear h
    go_wp2_with fail
    refine (LS1.out _ (F1.out.ext X2.out)).mono ?_
    rintro e w5 ⟨rfl, h⟩
    replace bt := h.cellOf bt
    replace p0 := h.cellOf p0
    replace p1 := h.cellOf p1
    replace X2 := Lib.hid (X2.out.trans h)
    clear h
    rcases (F1.out.ext X2.out).2 with h0 | ⟨b, off, hab, hcell⟩
    · rw [h0] at h2; simp at h2
    simp at hab
    obtain ⟨rfl, rfl⟩ := hab
    obtain ⟨c0, c1, c2⟩ := hcell k (by omega)
    obtain ⟨f0, f1, f2⟩ := hcell (k + 1) hk
    have i0 : (0 : Int) ≤ (k : Int) := by omega
    have i1 : (k : Int) < (fs.length : Int) := by omega
    have i2 : (0 : Int) ≤ (k : Int) + 1 := by omega
    have i3 : (k : Int) + 1 < (fs.length : Int) := by omega
    have Y0 : IntKind.i64.wrap ((k : Int) + 1) = (k : Int) + 1 := wrap_succ (by omega)
    have Y1 : ((k : Int) + 1).toNat = k + 1 := by omega
    have ebt : ∀ w', Ext w5 w' → w'.cell? ⟨w1.heap.size, 0, none⟩ = some (.slice (some ⟨gg, 0, none⟩) fs.length tc) := fun w' h => h.cellOf bt
    have ec0 : ∀ w', Ext w5 w' → w'.cell? ⟨gg, 0 + k * 3, none⟩ = some (.int .i64 (fx fs k).t) := fun w' h => h.cellOf c0
    have ec1 : ∀ w', Ext w5 w' → w'.cell? ⟨gg, 0 + k * 3 + 1, none⟩ = some (.int .i64 (fx fs k).x) := fun w' h => h.cellOf c1
    have ec2 : ∀ w', Ext w5 w' → w'.cell? ⟨gg, 0 + k * 3 + 2, none⟩ = some (.int .i64 (fx fs k).y) := fun w' h => h.cellOf c2
    have ee0 : ∀ w', Ext w5 w' → w'.cell? ⟨gg, 0 + (k + 1) * 3, none⟩ = some (.int .i64 (fx fs (k + 1)).t) := fun w' h => h.cellOf f0
    have ee1 : ∀ w', Ext w5 w' → w'.cell? ⟨gg, 0 + (k + 1) * 3 + 1, none⟩ = some (.int .i64 (fx fs (k + 1)).x) := fun w' h => h.cellOf f1
    have ee2 : ∀ w', Ext w5 w' → w'.cell? ⟨gg, 0 + (k + 1) * 3 + 2, none⟩ = some (.int .i64 (fx fs (k + 1)).y) := fun w' h => h.cellOf f2
    simp only [Nat.zero_add] at ec0 ec1 ec2 ee0 ee1 ee2
    have BT := Lib.hid bt
    have P0 := Lib.hid (And.intro p0 p1)
    clear c0 c1 c2 f0 f1 f2 hcell bt p0 p1
    go_upto_region 14 with fail
    go_cut [13, 14] (fun s s2 wx => (∃ B, s = .pointer (some ⟨B, 0, none⟩) ∧ Box wx B [.int .i64 (fx fs k).t, .int .i64 (fx fs k).x, .int .i64 (fx fs k).y]) ∧ (∃ B, s2 = .pointer (some ⟨B, 0, none⟩) ∧ Box wx B [.int .i64 (fx fs (k + 1)).t, .int .i64 (fx fs (k + 1)).x, .int .i64 (fx fs (k + 1)).y]) ∧ Ext w5 wx)
    case first =>
      go_region_held3 (fun w' => Ext w5 w')
        (repeat (first | exact Ext.refl _ | assumption | apply Ext.drew | apply Ext.alloc))
        (fail)
      all_goals
        go_wp2_with fail
        go_meet
        exact ⟨⟨_, rfl, (by first | exact (Box.new3 (by simp)).drew | exact ((Box.new3 rfl).alloc _).drew)⟩, ⟨_, rfl, (by first | exact (Box.new3 (by simp)).drew | exact ((Box.new3 rfl).alloc _).drew)⟩, ((Ext.refl _).alloc _ |>.alloc _).drew⟩
    case rest =>
      obtain ⟨⟨B6, rfl, H6⟩, ⟨B7, rfl, H7⟩, hx⟩ := hcut
      have f0 := (H6 0 _ rfl).1
      have f1 := (H6 1 _ rfl).1
      have f2 := (H6 2 _ rfl).1
      have g0 := (H7 0 _ rfl).1
      have g1 := (H7 1 _ rfl).1
      have g2 := (H7 2 _ rfl).1
      have bt := hx.cellOf BT.out
      have p0 := hx.cellOf P0.out.1
      have p1 := hx.cellOf P0.out.2
      replace X2 := Lib.hid (X2.out.trans hx)
      clear ebt ec0 ec1 ec2 ee0 ee1 ee2 hx H6 H7 BT P0
      go_wp2_with fail
      refine (posFix _ _ _ _ _ (F1.out.ext X2.out) htc HV.out (by omega)).mono ?_
      rintro e w6 ⟨rfl, h⟩
      replace bt := one_on (h.cellOf bt)
      replace p0 := one_on (h.cellOf p0)
      replace p1 := one_on (h.cellOf p1)
      replace f0 := one_on (h.cellOf f0)
      replace f1 := one_on (h.cellOf f1)
      replace f2 := one_on (h.cellOf f2)
      replace g0 := one_on (h.cellOf g0)
      replace g1 := one_on (h.cellOf g1)
      replace g2 := one_on (h.cellOf g2)
      replace X2 := Lib.hid (X2.out.trans h)
      clear h
      go_wp2_with fail
      refine (posFix _ _ _ _ _ (F1.out.ext (X2.out.alloc _)) htc HV.out hk).mono ?_
      rintro e w7 ⟨rfl, h⟩
      have q0 : ∀ A, (w7.alloc A).cell? ⟨w6.heap.size, 0, none⟩ = some (.int .i64 (fx fs k).x) := one_on (h.cellOf (boxed 0 rfl rfl))
      have q1 : ∀ A, (w7.alloc A).cell? ⟨w6.heap.size, 1, none⟩ = some (.int .i64 (fx fs k).y) := one_on (h.cellOf (boxed 1 rfl rfl))
      replace p0 := one_on (h.cellOf (p0 _))
      replace p1 := one_on (h.cellOf (p1 _))
      replace f0 := one_on (h.cellOf (f0 _))
      replace f1 := one_on (h.cellOf (f1 _))
      replace f2 := one_on (h.cellOf (f2 _))
      replace g0 := one_on (h.cellOf (g0 _))
      replace g1 := one_on (h.cellOf (g1 _))
      replace g2 := one_on (h.cellOf (g2 _))
      replace X2 := Lib.hid ((X2.out.alloc _).trans h)
      clear h bt
      obtain ⟨l0, l1⟩ := LI.out
      rw [PO.out.1] at p0
      rw [PO.out.2] at p1
      have EX := Lib.hid (X.out.trans X2.out)
      have pb0 := PB.out.1
      have pb1 := PB.out.2
      clear X X2 LI PO LI1 LS1 HV PB F1 hc
      generalize pkX fs t k = px at *
      generalize pkY fs t k = py at *
      generalize (fx fs k).t = tk at *
      generalize (fx fs k).x = xk at *
      generalize (fx fs k).y = yk at *
      generalize (fx fs (k + 1)).t = tj at *
      generalize (fx fs (k + 1)).x = xj at *
      generalize (fx fs (k + 1)).y = yj at *
      have PB0 := Lib.hid pb0
      have PB1 := Lib.hid pb1
      clear pb0 pb1
      go_wp2_with (go_at_call 34; first | (with_reducible refine (between_any _ _ _ _ PB0.out).mono ?_; rintro e w8 ⟨rfl, rfl⟩) | (with_reducible refine (between_any _ _ _ _ PB1.out).mono ?_; rintro e w8 ⟨rfl, rfl⟩))
      go_ret
      exact ⟨rfl, EX.out.alloc _⟩

theorem own : ownKnob Try.prog.godebug = none := by kernel_rfl
theorem laidOut : laidOutB Try.prog = true := by kernel_rfl

set_option maxRecDepth 100000 in
theorem lifted (os : Os) (started : os.Started) (H : Type) (enc : TypeId × Value → H) :
    ReturnsInHanded {} Try.checked os 7 .any (Rows.fnPositionSpec.pre6 enc Try.prog Try.f7 Rows.fnPositionRow.domain false) (Rows.fnPositionSpec.post enc Try.prog Try.f7 false true false false) := by
  refine returnsInHanded_of_change (C := Try.checked) own started (by kernel_rfl) Try.func7
    (ChangeSpec.witness6 (enc := enc) (C := Try.checked) false ⟨#[], #[.slice none 0 0], []⟩ 8 (by kernel_rfl) (by kernel_rfl) (by kernel_rfl) (by kernel_rfl)) ?_
  intro W base args ds gs before hval0 hW hcnd _
  have hval : ∀ (j : Nat) t v, Try.f7.params[j]? = some t → args[j]? = some v → Value.okWide Try.prog W .any base t v := hval0
  have hW' := hW
  obtain ⟨p, q, hA0, hV, rfl, hfz, hnd⟩ := hW
  have hA : DataW.TrodAll enc Try.prog W 0 (fun _ => true) true Try.f7.params.toList args.toList ds p := hA0
  rw [Try.params7] at hA hval
  obtain ⟨v0, vs0, d0, ds0, p0, q0, hargs, rfl, rfl, h0, r0⟩ := trodAll_cons hA
  obtain ⟨rfl, rfl, rfl⟩ := trodAll_nil r0
  obtain rfl : args = #[v0] := by cases args; simp_all
  obtain ⟨rfl, rfl⟩ := trodVars_none hV
  have k0 := h0
  have lt0 : ∀ x ∈ p0, x.block < W.heap.size := by obtain ⟨m, hm⟩ := k0; exact DataW.trod_lt m _ _ _ hm
  obtain ⟨a0, len0, cap0, rfl⟩ := okWide_slice Try.underlying61 (hval 0 61 v0 rfl rfl)
  obtain ⟨z0, w0⟩ : ∃ zs, IsRow .u8 W a0 len0 cap0 zs := by
    obtain ⟨fuel, hf⟩ := h0
    rcases open_ints Try.underlying61 Try.underlying5 (by kernel_rfl) hf with ⟨hcs, _⟩ | ⟨x, l, c, zs, hcs, _, hl, hm, hz, _, hcell, hwz⟩
    · simp [Value.cells] at hcs
      obtain ⟨rfl, rfl, rfl⟩ := hcs
      exact ⟨[], .inl ⟨rfl, rfl, rfl, rfl⟩⟩
    · simp [Value.cells] at hcs
      obtain ⟨rfl, rfl, rfl⟩ := hcs
      exact ⟨zs, .inr ⟨_, rfl, hl, hm, by simpa using hz, hcell, hwz⟩⟩
  clear hA0 hval0
  refine (walk a0 len0 cap0 z0 W w0).mono fun e W' ⟨he, hx⟩ => ?_
  have bel := hx.below
  subst he
  exact ⟨_, rfl, _, _, _, [], _, [], hW', trodAll_mk1 (shut_bool Try.underlying4 _), (trodAll_cons_mk (Below.trod laidOut (by kernel_rfl) (of_decide_eq_true (by kernel_rfl)) k0 bel lt0) trodAll_mk0), rfl, bel.frame _, fun h => by cases h⟩

theorem proved : Rows.FnPositionSaid :=
  OpenClaim.holds_of_wide 7 Try.f7 rfl rfl rfl rfl rfl rfl rfl ⟨rfl, rfl, rfl, rfl, rfl⟩ rfl rfl rfl rfl rfl (by kernel_rfl) Try.func7 (by kernel_rfl)
    (of_decide_eq_true (by kernel_rfl)) (by unfold Func.isWrapper; first | (rw [if_pos (by decide +kernel)]; kernel_rfl) | (rw [if_neg (by decide +kernel)]; exact ⟨rfl, rfl⟩))
    (fun os started H enc _ => lifted os started H enc)

end Go.Proofs.Ytaliopnhdcdajaa.fnPosition
