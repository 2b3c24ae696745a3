/- FnTimeText: for every code, the text of the drawn time is the reference model's, a time is read back from its text, and a text that is accepted is the text of its time. No condition but the tied variables of the card. -/
import Derived.Test.YtcjcgiagacpolaaDoorRead
import Derived.Test.YtcjcgiagacpolaaDoorLaid
import Derived.Test.YtcjcgiagacpolaaDoorDrawT
import Derived.Test.YtcjcgiagacpolaaDoorBig
import Derived.ChangeOld
import Derived.Below
import Derived.Lib.SmallJoins
namespace Go.Proofs.YtcjcgiagacpolaaDoor.fnTimeText
open Go.ChangeShapes Go.WideShapes Go.ChangeAt Go.RowKit
open Go.ChangeMaps (open_string shut_string)
open Go.Proofs.YtcjcgiagacpolaaDoor.Kit Go.Proofs.YtcjcgiagacpolaaDoor.Txt Go.Proofs.YtcjcgiagacpolaaDoor.TxtMath Go.Proofs.YtcjcgiagacpolaaDoor.Draw
set_option linter.unusedVariables false

set_option maxHeartbeats 400000 in
theorem walk (a : Option Addr) (len cap : Nat) (zs : List Int) (w : World) (hr : IsRow .u8 w a len cap zs) (hE : Env w) :
    Calls Tryd.prog 3 #[.slice a len cap] w fun e w' => e = .returned (.bool true) ∧ Ext w w' := by
  have HR := Lib.hid hr
  have HE := Lib.hid hE
  clear hr hE
  by_cases hl : 4096 < len
  · have g := show bigB len = true from decide_eq_true hl
    go_enter Tryd.func3, Tryd.ntmps3
    go_wp2_with (go_at_call 6; refine (big_any _ _ _ _).mono ?_; rintro e w' ⟨rfl, rfl⟩)
    go_ret
    exact ⟨rfl, Ext.refl _⟩
  · have g := show bigB len = false from decide_eq_false hl
    go_enter Tryd.func3, Tryd.ntmps3
    go_wp2_with fail
    refine (big_any _ _ _ _).mono ?_
    rintro e w' ⟨rfl, rfl⟩
    go_wp2_with fail
    refine (drawTimeText_any a len cap _ HR.out.bytes (by omega)).mono ?_
    rintro e w1 ⟨t, rfl, hx⟩
    have HE1 := Lib.hid (HE.out.ext hx)
    go_wp2_with fail
    refine (timeText_impl t _ HE1.out.1).mono ?_
    rintro e w2 ⟨rfl, hx2⟩
    replace HE1 := Lib.hid (HE1.out.ext hx2)
    replace hx := hx.trans hx2
    clear hx2
    go_wp2_with fail
    refine (timeText_spec t _).mono ?_
    rintro e w3 ⟨rfl, hx2⟩
    replace HE1 := Lib.hid (HE1.out.ext hx2)
    replace hx := hx.trans hx2
    clear hx2
    by_cases ht : 0 ≤ t ∧ t ≤ 1000000000
    · have HT := Lib.hid (show tmT t = tmL t from if_pos ht)
      have HY := Lib.hid (rd_yes ht.1 ht.2).1
      have h1 : (tmT t == []) = false := by rw [HT.out]; unfold tmL; simp
      have r1 : (rdI (tmT t)).1 = t := by rw [HT.out, HY.out]
      have r2 : (rdI (tmT t)).2 = true := by rw [HT.out, HY.out]
      go_wp2_with fail
      refine (readTime_impl (tmT t) _ HE1.out (by have := tmT_len t; omega)).mono ?_
      rintro e w4 ⟨rfl, hx2⟩
      replace HE1 := Lib.hid (HE1.out.ext hx2)
      replace hx := hx.trans hx2
      clear hx2
      go_wp2_with fail
      refine (other_any a len cap zs 1 _ (row_ext HR.out hx) (by omega) (by omega) (by omega)).mono ?_
      rintro e w4 ⟨a4, c4, rfl, HB, hx2⟩
      replace HB := Lib.hid HB
      replace HE1 := Lib.hid (HE1.out.ext hx2)
      replace hx := hx.trans hx2
      clear hx2
      go_wp2_with fail
      refine (drawReadTime_any a4 (len + 3) c4 _ HB.out (by omega)).mono ?_
      rintro e w5 ⟨m, rfl, hm, hx2⟩
      replace HE1 := Lib.hid (HE1.out.ext hx2)
      replace hx := hx.trans hx2
      clear hx2
      go_wp2_with fail
      refine (readTime_impl m _ HE1.out (by omega)).mono ?_
      rintro e w6 ⟨rfl, hx2⟩
      replace HE1 := Lib.hid (HE1.out.ext hx2)
      replace hx := hx.trans hx2
      clear hx2
      rcases Bool.eq_false_or_eq_true (rdI m).2 with q2 | q2
      · have q1 : tmT (rdI m).1 = m := rdI_true q2
        go_wp2_with fail
        refine (timeText_impl (rdI m).1 _ HE1.out.1).mono ?_
        rintro e w7 ⟨rfl, hx2⟩
        replace hx := hx.trans hx2
        clear hx2
        go_wp2
        go_ret
        exact ⟨rfl, hx⟩
      · have q1 : (rdI m).1 = 0 := rdI_false q2
        go_wp2
        go_ret
        exact ⟨rfl, hx⟩
    · have HT := Lib.hid (show tmT t = [] from if_neg ht)
      have h1 : (tmT t == []) = true := by rw [HT.out]; rfl
      go_wp2_with fail
      refine (other_any a len cap zs 1 _ (row_ext HR.out hx) (by omega) (by omega) (by omega)).mono ?_
      rintro e w4 ⟨a4, c4, rfl, HB, hx2⟩
      replace HB := Lib.hid HB
      replace HE1 := Lib.hid (HE1.out.ext hx2)
      replace hx := hx.trans hx2
      clear hx2
      go_wp2_with fail
      refine (drawReadTime_any a4 (len + 3) c4 _ HB.out (by omega)).mono ?_
      rintro e w5 ⟨m, rfl, hm, hx2⟩
      replace HE1 := Lib.hid (HE1.out.ext hx2)
      replace hx := hx.trans hx2
      clear hx2
      go_wp2_with fail
      refine (readTime_impl m _ HE1.out (by omega)).mono ?_
      rintro e w6 ⟨rfl, hx2⟩
      replace HE1 := Lib.hid (HE1.out.ext hx2)
      replace hx := hx.trans hx2
      clear hx2
      rcases Bool.eq_false_or_eq_true (rdI m).2 with q2 | q2
      · have q1 : tmT (rdI m).1 = m := rdI_true q2
        go_wp2_with fail
        refine (timeText_impl (rdI m).1 _ HE1.out.1).mono ?_
        rintro e w7 ⟨rfl, hx2⟩
        replace hx := hx.trans hx2
        clear hx2
        go_wp2
        go_ret
        exact ⟨rfl, hx⟩
      · have q1 : (rdI m).1 = 0 := rdI_false q2
        go_wp2
        go_ret
        exact ⟨rfl, hx⟩

theorem own : ownKnob Tryd.prog.godebug = none := by kernel_rfl
theorem laidOut : laidOutB Tryd.prog = true := by kernel_rfl

theorem laid_met (os : Os) (args : Array Value) : laidMet Tryd.prog Rows.fnTimeTextRow.laid ((Laid.laidWorld os).forCall (fun _ _ => 0) ⟨#[], args, []⟩).memory :=
  laidMet_of_run' 8 (by kernel_rfl) (by kernel_rfl)
theorem reads (os : Os) {H : Type} (enc : TypeId × Value → H) : ∃ places, DataW.whole enc Tryd.prog ((Laid.laidWorld os).forCall (fun _ _ => 0) ⟨#[], #[.slice none 0 0], []⟩).memory Tryd.f3.params.toList Rows.fnTimeTextSpec.vars false (#[.slice none 0 0] : Array Value).toList 8 = some ([.nil], [], places) :=
  ⟨[], by kernel_rfl⟩

set_option maxRecDepth 100000 in
theorem lifted (os : Os) (started : os.Started) (H : Type) (enc : TypeId × Value → H) (F : Stop.Interp) :
    ReturnsInHanded {} Tryd.checked os 3 .any ((OpenSpec.ofChange Rows.fnTimeTextSpec).preRow enc Tryd.prog Tryd.f3 Rows.fnTimeTextRow.domain false Rows.fnTimeTextRow.laid) (((OpenSpec.ofChange Rows.fnTimeTextSpec).at F).post enc Tryd.prog Tryd.f3 false true false false) := by
  obtain ⟨places, hx0⟩ := reads os enc
  refine returnsInHanded_of_row (C := Tryd.checked) (s := OpenSpec.ofChange Rows.fnTimeTextSpec) own started (by kernel_rfl) Tryd.func3
    (witness_row_atRef (enc := enc) (C := Tryd.checked) false (Laid.laidWorld os) #[.slice none 0 0] rfl (by kernel_rfl) (by kernel_rfl) (by kernel_rfl)
      (OpenSpec.preRow_of_cond 8 hx0 (by kernel_rfl) (fun k hk => by cases hk) (by kernel_rfl) (laid_met os _))) ?_
  clear hx0
  intro W base args ds gs before hval0 hW hcnd _ _ hL hsh _
  have hval : ∀ (j : Nat) t v, Tryd.f3.params[j]? = some t → args[j]? = some v → Value.okWide Tryd.prog W .any base t v := hval0
  have hW' := hW
  obtain ⟨p, q, hA0, hV, rfl, hfz, hnd⟩ := hW
  have hA : DataW.TrodAll enc Tryd.prog W 0 (fun _ => true) true Tryd.f3.params.toList args.toList ds p := hA0
  rw [Tryd.params3] at hA hval
  obtain ⟨v0, vs0, d0, ds0, p0, q0, hargs, rfl, rfl, h0, r0⟩ := trodAll_cons hA
  obtain ⟨rfl, rfl, rfl⟩ := trodAll_nil r0
  obtain rfl : args = #[v0] := by cases args; simp_all
  obtain ⟨rfl, rfl⟩ := trodVars_none hV
  have k0 := h0
  have lt0 : ∀ x ∈ p0, x.block < W.heap.size := by obtain ⟨m, hm⟩ := k0; exact DataW.trod_lt m _ _ _ hm
  obtain ⟨a0, len0, cap0, rfl⟩ := okWide_slice Tryd.underlying22 (hval 0 22 v0 rfl rfl)
  obtain ⟨z0, w0⟩ : ∃ zs, IsRow .u8 W a0 len0 cap0 zs := by
    obtain ⟨fuel, hf⟩ := h0
    rcases open_ints Tryd.underlying22 Tryd.underlying5 (by kernel_rfl) hf with ⟨hcs, _⟩ | ⟨x, l, c, zs, hcs, _, hl, hm, hz, _, hcell, hwz⟩
    · simp [Value.cells] at hcs
      obtain ⟨rfl, rfl, rfl⟩ := hcs
      exact ⟨[], .inl ⟨rfl, rfl, rfl, rfl⟩⟩
    · simp [Value.cells] at hcs
      obtain ⟨rfl, rfl, rfl⟩ := hcs
      exact ⟨zs, .inr ⟨_, rfl, hl, hm, by simpa using hz, hcell, hwz⟩⟩
  have hL' : laidMet Tryd.prog Rows.fnTimeTextRow.laid W := hL
  have e1 : Txt.Tab W := Lib.tabIs_of_head (k := .u64) (zs := Lib.pow10Tab) Txt.tabBlock (by kernel_rfl) Tryd.underlying60 Tryd.underlying44 (by kernel_rfl) (by kernel_rfl) (hL'.tail.tail)
  obtain ⟨ae3, te3, e3, _, _, _⟩ := laid_sentinel (g := 3) (hL'.tail.tail.tail) (by kernel_rfl) (by kernel_rfl) Tryd.underlying46 Laid.rowES Tryd.underlying82 Tryd.underlying84 rfl rfl Tryd.underlying9 (by kernel_rfl) (by kernel_rfl)
  obtain ⟨ae2, te2, e2, _, _, _⟩ := laid_sentinel (g := 2) (hL'.tail.tail.tail.tail) (by kernel_rfl) (by kernel_rfl) Tryd.underlying46 Laid.rowES Tryd.underlying82 Tryd.underlying84 rfl rfl Tryd.underlying9 (by kernel_rfl) (by kernel_rfl)
  have hE : Txt.Env W := ⟨e1, hsh, ⟨_, _, e2⟩, ⟨_, _, e3⟩⟩
  clear hA0 hval0
  refine (walk a0 len0 cap0 z0 W w0 hE).mono fun e W' ⟨he, hx⟩ => ?_
  have bel := hx.below
  subst he
  exact ⟨_, rfl, _, _, _, [], _, [], hW', trodAll_mk1 (shut_bool Tryd.underlying4 _), (trodAll_cons_mk (Below.trod laidOut (by kernel_rfl) (of_decide_eq_true (by kernel_rfl)) k0 bel lt0) trodAll_mk0), rfl, bel.frame _, fun h => by cases h⟩

theorem said : Rows.FnTimeTextSaid :=
  OpenClaim.holds_of_cond 3 Tryd.f3 rfl rfl rfl rfl rfl rfl rfl ⟨rfl, rfl, rfl, rfl, rfl⟩ rfl rfl rfl rfl rfl (by kernel_rfl) Tryd.func3 (by kernel_rfl)
    (of_decide_eq_true (by kernel_rfl)) (by unfold Func.isWrapper; first | (rw [if_pos (by decide +kernel)]; kernel_rfl) | (rw [if_neg (by decide +kernel)]; exact ⟨rfl, rfl⟩))
    (fun os started H enc _ F => by rw [OpenClaim.pre_eq_preRow]; exact lifted os started H enc F)

theorem plain (f : FuncId) (fn : Func) (hf : Tryd.pinned.checked.prog.funcNamed "loop.example/g00887/laws.FnTimeText" = some f) (hfn : Tryd.pinned.checked.prog.funcs[f]? = some fn) :
    true = Tryd.pinned.checked.prog.looks [] ∧ ∀ (j : Nat) t, fn.params[j]? = some t → Tryd.pinned.checked.prog.wantsStandIn t = false := by
  obtain rfl : f = 3 := Option.some.inj ((show Tryd.prog.funcNamed "loop.example/g00887/laws.FnTimeText" = some 3 by kernel_rfl).symm.trans hf) |>.symm
  obtain rfl : fn = Tryd.f3 := (Option.some.inj (Tryd.func3.symm.trans hfn)).symm
  refine ⟨by kernel_rfl, fun j t ht => ?_⟩
  rw [Tryd.params3] at ht
  obtain rfl : t = 22 := by simpa using Array.mem_of_getElem? ht
  exact (show Tryd.prog.wantsStandIn 22 = false by kernel_rfl)

theorem proved : Rows.FnTimeTextCardSaid :=
  Claim7.holds_tied_plain_at .later [] _ _ _ _ said (fun _ h => by cases h) (by kernel_rfl) (fun _ h => by cases h) fnTimeText_row_tie rfl ⟨rfl, rfl⟩ (by kernel_rfl) rfl plain (by kernel_rfl)

end Go.Proofs.YtcjcgiagacpolaaDoor.fnTimeText
