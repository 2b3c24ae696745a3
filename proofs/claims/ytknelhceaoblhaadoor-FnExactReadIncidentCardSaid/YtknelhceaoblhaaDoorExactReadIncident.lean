/- FnExactReadIncident: for every text, impl.ReadIncident and spec.ReadIncident answer the same incident and the same verdict. No condition but the tied variables of the card. -/
import Derived.Test.YtknelhceaoblhaaDoorIrs
import Derived.Test.YtknelhceaoblhaaDoorIv1
import Derived.Test.YtknelhceaoblhaaDoorOpnI
import Derived.Test.YtknelhceaoblhaaDoorLaid
import Derived.Test.YtknelhceaoblhaaDoorClo
import Derived.ChangeOld
import Derived.Below
import Derived.Lib.SmallJoins
import Derived.Deep.DeepCutAuto
namespace Go.Proofs.YtknelhceaoblhaaDoor.fnExactReadIncident
open Go.ChangeShapes Go.WideShapes Go.ChangeAt Go.RowKit
open Go.ChangeMaps (open_string shut_string)
open Go.Proofs.YtknelhceaoblhaaDoor.Kit Go.Proofs.YtknelhceaoblhaaDoor.Txt Go.Proofs.YtknelhceaoblhaaDoor.IncT Go.Proofs.YtknelhceaoblhaaDoor.Irx Go.Proofs.YtknelhceaoblhaaDoor.Iv
set_option linter.unusedVariables false
set_option linter.unusedSimpArgs false

set_option maxHeartbeats 1000000 in
theorem walk (s : ByteArray) (w : World) (hs : s.size ≤ maxLen) (hE : Env w) : Calls Tryd.prog 5 #[.string s] w fun e w' => e = .returned (.bool true) ∧ Ext w w' := by
  obtain ⟨l, rfl⟩ : ∃ l : List UInt8, s = ⟨l.toArray⟩ := ⟨s.data.toList, by cases s; simp⟩
  have hl : (⟨l.toArray⟩ : ByteArray).size = l.length := by simp [ByteArray.size]
  rw [hl] at hs
  unfold maxLen at hs
  clear hl
  have HE := Lib.hid hE
  clear hE
  by_cases hb : 1048576 < l.length
  · go_enter Tryd.func5, Tryd.ntmps5
    go_wp2
    go_ret
    exact ⟨rfl, Ext.refl _⟩
  · have PS := Lib.hid (fun w => readIncident_spec l w (by omega))
    have PI := Lib.hid (fun (w : World) (h : Env w) => readIncident_impl l w h (by omega))
    generalize irX l = x at *
    generalize irB l = b at *
    obtain ⟨t, f, s, k, r⟩ := x
    go_enter Tryd.func5, Tryd.ntmps5
    go_wp2_with fail
    refine (PS.out _).mono ?_
    rintro e w1 ⟨rfl, hx⟩
    obtain ⟨V1, hV1⟩ : ∃ V1, V1 = w1.alloc (.cells #[.int .i64 t, .int .i64 f, .int .i64 s, .int .i64 k, .int .i64 r] 25) := ⟨_, rfl⟩
    have X1 : Ext w V1 := hV1 ▸ hx.alloc _
    have P1 := Lib.hid (show Kit.Box V1 w1.heap.size [.int .i64 t, .int .i64 f, .int .i64 s, .int .i64 k, .int .i64 r] from hV1 ▸ Kit.Box.new5 rfl)
    replace HE := Lib.hid (HE.out.ext X1)
    go_upto_region 4 with fail
    rw [← hV1]
    clear hV1 hx
    go_wp2_with fail
    refine (PI.out _ HE.out).mono ?_
    rintro e w2 ⟨rfl, hy⟩
    obtain ⟨V2, hV2⟩ : ∃ V2, V2 = w2.alloc (.cells #[.int .i64 t, .int .i64 f, .int .i64 s, .int .i64 k, .int .i64 r] 25) := ⟨_, rfl⟩
    have X2 : Ext V1 V2 := hV2 ▸ hy.alloc _
    have P2 := Lib.hid (show Kit.Box V2 w2.heap.size [.int .i64 t, .int .i64 f, .int .i64 s, .int .i64 k, .int .i64 r] from hV2 ▸ Kit.Box.new5 rfl)
    replace P1 := Lib.hid (P1.out.ext X2)
    go_upto_region 5 with fail
    rw [← hV2]
    clear hV2 hy
    obtain ⟨⟨c0, c1, c2, c3, c4⟩, _⟩ := P1.out.five
    obtain ⟨⟨d0, d1, d2, d3, d4⟩, _⟩ := P2.out.five
    cases b
    all_goals
      go_wp2_with fail
      refine (eqIncident_same _ _ _ _ _ _).mono ?_
      rintro e w3 ⟨rfl, hy⟩
      go_wp2
      go_ret
      exact ⟨rfl, X1.trans (X2.trans hy)⟩

theorem own : ownKnob Tryd.prog.godebug = none := by kernel_rfl
theorem laidOut : laidOutB Tryd.prog = true := Clo.laid

theorem laid_met (os : Os) (args : Array Value) : laidMet Tryd.prog Rows.fnExactReadIncidentRow.laid ((Laid.laidWorld os).forCall (fun _ _ => 0) ⟨#[], args, []⟩).memory :=
  laidMet_of_run' 8 (by kernel_rfl) (by kernel_rfl)
theorem reads (os : Os) {H : Type} (enc : TypeId × Value → H) : ∃ places, DataW.whole enc Tryd.prog ((Laid.laidWorld os).forCall (fun _ _ => 0) ⟨#[], #[.string ⟨#[]⟩], []⟩).memory Tryd.f5.params.toList Rows.fnExactReadIncidentSpec.vars false (#[.string ⟨#[]⟩] : Array Value).toList 8 = some ([.lit (.string [])], [], places) :=
  ⟨[], by kernel_rfl⟩

set_option maxRecDepth 100000 in
theorem lifted (os : Os) (started : os.Started) (H : Type) (enc : TypeId × Value → H) (F : Stop.Interp) :
    ReturnsInHanded {} Tryd.checked os 5 .any ((OpenSpec.ofChange Rows.fnExactReadIncidentSpec).preRow enc Tryd.prog Tryd.f5 Rows.fnExactReadIncidentRow.domain false Rows.fnExactReadIncidentRow.laid) (((OpenSpec.ofChange Rows.fnExactReadIncidentSpec).at F).post enc Tryd.prog Tryd.f5 false true false false) := by
  obtain ⟨places, hx0⟩ := reads os enc
  refine returnsInHanded_of_row (C := Tryd.checked) (s := OpenSpec.ofChange Rows.fnExactReadIncidentSpec) own started (by kernel_rfl) Tryd.func5
    (witness_row_atRef (enc := enc) (C := Tryd.checked) false (Laid.laidWorld os) #[.string ⟨#[]⟩] rfl (by kernel_rfl) (by kernel_rfl) (by kernel_rfl)
      (OpenSpec.preRow_of_cond 8 hx0 (by kernel_rfl) (fun k hk => by cases hk) (by kernel_rfl) (laid_met os _))) ?_
  clear hx0
  intro W base args ds gs before hval0 hW hcnd _ _ hL hsh _
  have hval : ∀ (j : Nat) t v, Tryd.f5.params[j]? = some t → args[j]? = some v → Value.okWide Tryd.prog W .any base t v := hval0
  have hW' := hW
  obtain ⟨p, q, hA0, hV, rfl, hfz, hnd⟩ := hW
  have hA : DataW.TrodAll enc Tryd.prog W 0 (fun _ => true) true Tryd.f5.params.toList args.toList ds p := hA0
  rw [Tryd.params5] at hA hval
  obtain ⟨v0, vs0, d0, ds0, p0, q0, hargs, rfl, rfl, h0, r0⟩ := trodAll_cons hA
  obtain ⟨rfl, rfl, rfl⟩ := trodAll_nil r0
  obtain rfl : args = #[v0] := by cases args; simp_all
  obtain ⟨rfl, rfl⟩ := trodVars_none hV
  have k0 := h0
  have lt0 : ∀ x ∈ p0, x.block < W.heap.size := by obtain ⟨m, hm⟩ := k0; exact DataW.trod_lt m _ _ _ hm
  obtain ⟨s0, rfl, _, _, w0⟩ := open_string Tryd.underlying9 (hval 0 9 v0 rfl rfl) h0
  have hL' : laidMet Tryd.prog Rows.fnExactReadIncidentRow.laid W := hL
  have e1 : Txt.Tab W := Lib.tabIs_of_head (k := .u64) (zs := Lib.pow10Tab) Txt.tabBlock (by kernel_rfl) Tryd.underlying88 Tryd.underlying74 (by kernel_rfl) (by kernel_rfl) (hL'.tail.tail)
  obtain ⟨ae3, te3, e3, _, _, _⟩ := laid_sentinel (g := 3) (hL'.tail.tail.tail) (by kernel_rfl) (by kernel_rfl) Tryd.underlying61 Laid.rowES Tryd.underlying109 Tryd.underlying111 rfl rfl Tryd.underlying9 (by kernel_rfl) (by kernel_rfl)
  obtain ⟨ae2, te2, e2, _, _, _⟩ := laid_sentinel (g := 2) (hL'.tail.tail.tail.tail) (by kernel_rfl) (by kernel_rfl) Tryd.underlying61 Laid.rowES Tryd.underlying109 Tryd.underlying111 rfl rfl Tryd.underlying9 (by kernel_rfl) (by kernel_rfl)
  have hE : Txt.Env W := ⟨e1, hsh, ⟨_, _, e2⟩, ⟨_, _, e3⟩⟩
  clear hA0 hval0
  refine (walk s0 W w0 hE).mono fun e W' ⟨he, hx⟩ => ?_
  have bel := hx.below
  subst he
  exact ⟨_, rfl, _, _, _, [], _, [], hW', trodAll_mk1 (shut_bool Tryd.underlying4 _), (trodAll_cons_mk (Below.trod laidOut (by kernel_rfl) (of_decide_eq_true (by kernel_rfl)) k0 bel lt0) trodAll_mk0), rfl, bel.frame _, fun h => by cases h⟩

set_option maxRecDepth 100000 in
set_option maxHeartbeats 400000000 in
theorem closed : joinedFacts Tryd.pinned.checked.prog 5 Tryd.f5 Rows.fnExactReadIncidentSpec Rows.fnExactReadIncidentRow = true := by
  unfold joinedFacts
  simp only [Bool.and_eq_true]
  repeat' (with_reducible refine And.intro ?_ ?_)
  all_goals (first | (with_reducible exact Clo.laid) | (with_reducible exact Clo.rowed) | (with_reducible exact Clo.heard) | (with_reducible exact Clo.enter) | (rw [Clo.lifts]; rfl) | (rw [Clo.made]; rfl) | (as_aux_lemma => kernel_rfl))

theorem said : Rows.FnExactReadIncidentSaid :=
  OpenClaim.holds_of_cond 5 Tryd.f5 rfl rfl rfl rfl rfl rfl rfl ⟨rfl, rfl, rfl, rfl, rfl⟩ rfl rfl rfl rfl rfl (by kernel_rfl) Tryd.func5 (by kernel_rfl)
    (of_decide_eq_true (by kernel_rfl)) (by unfold Func.isWrapper; first | (rw [if_pos (by decide +kernel)]; kernel_rfl) | (rw [if_neg (by decide +kernel)]; exact ⟨rfl, rfl⟩))
    (fun os started H enc _ F => by rw [OpenClaim.pre_eq_preRow]; exact lifted os started H enc F)

theorem plain (f : FuncId) (fn : Func) (hf : Tryd.pinned.checked.prog.funcNamed "loop.example/g00887/laws.FnExactReadIncident" = some f) (hfn : Tryd.pinned.checked.prog.funcs[f]? = some fn) :
    true = Tryd.pinned.checked.prog.looks [] ∧ ∀ (j : Nat) t, fn.params[j]? = some t → Tryd.pinned.checked.prog.wantsStandIn t = false := by
  obtain rfl : f = 5 := Option.some.inj ((show Tryd.prog.funcNamed "loop.example/g00887/laws.FnExactReadIncident" = some 5 by kernel_rfl).symm.trans hf) |>.symm
  obtain rfl : fn = Tryd.f5 := (Option.some.inj (Tryd.func5.symm.trans hfn)).symm
  refine ⟨by kernel_rfl, fun j t ht => ?_⟩
  rw [Tryd.params5] at ht
  obtain rfl : t = 9 := by simpa using Array.mem_of_getElem? ht
  exact (show Tryd.prog.wantsStandIn 9 = false by kernel_rfl)

theorem proved : Rows.FnExactReadIncidentCardSaid :=
  Claim7.holds_tied_plain_at .later [] _ _ _ _ said (fun _ h => by cases h) (by kernel_rfl) (fun _ h => by cases h) fnExactReadIncident_row_tie rfl ⟨rfl, rfl⟩ (by kernel_rfl) rfl plain (by kernel_rfl)

end Go.Proofs.YtknelhceaoblhaaDoor.fnExactReadIncident
