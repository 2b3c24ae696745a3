/- FnExactIncidentText: for every incident, impl.IncidentText and spec.IncidentText answer the same text. No condition but the tied variables of the card. -/
import Derived.Test.YtknelhceaoblhaaDoorItx2
import Derived.Test.YtknelhceaoblhaaDoorIv1
import Derived.Test.YtknelhceaoblhaaDoorOpnI
import Derived.Test.YtknelhceaoblhaaDoorLaid
import Derived.Test.YtknelhceaoblhaaDoorClo
import Derived.ChangeOld
import Derived.Below
import Derived.Lib.SmallJoins
import Derived.Deep.DeepCutAuto
namespace Go.Proofs.YtknelhceaoblhaaDoor.fnExactIncidentText
open Go.ChangeShapes Go.WideShapes Go.ChangeAt Go.RowKit
open Go.ChangeMaps (open_string shut_string)
open Go.Proofs.YtknelhceaoblhaaDoor.Kit Go.Proofs.YtknelhceaoblhaaDoor.Txt Go.Proofs.YtknelhceaoblhaaDoor.IncT Go.Proofs.YtknelhceaoblhaaDoor.Itx Go.Proofs.YtknelhceaoblhaaDoor.Iv
set_option linter.unusedVariables false
set_option linter.unusedSimpArgs false

set_option maxHeartbeats 1000000 in
theorem walk (t f s k r : Int) (w : World) (hE : Tab w) : Calls Tryd.prog 4 #[V5 t f s k r] w fun e w' => e = .returned (.bool true) ∧ Ext w w' := by
  have HT := Lib.hid hE
  clear hE
  obtain ⟨W0, hW0⟩ : ∃ W0, W0 = w.alloc (.cells #[.int .i64 t, .int .i64 f, .int .i64 s, .int .i64 k, .int .i64 r] 30) := ⟨_, rfl⟩
  have hX : Ext w W0 := hW0 ▸ ((Ext.refl w).alloc _)
  have hs0 : W0.heap.size = w.heap.size + 1 := by rw [hW0]; simp
  have e00 : ∀ w', (Ext W0) w' → w'.cell? ⟨w.heap.size, 0, none⟩ = some (.int .i64 t) := fun w' h => h.cellOf (by rw [hW0]; exact boxed 0 rfl (by simp))
  have e01 : ∀ w', (Ext W0) w' → w'.cell? ⟨w.heap.size, 1, none⟩ = some (.int .i64 f) := fun w' h => h.cellOf (by rw [hW0]; exact boxed 1 rfl (by simp))
  have e02 : ∀ w', (Ext W0) w' → w'.cell? ⟨w.heap.size, 2, none⟩ = some (.int .i64 s) := fun w' h => h.cellOf (by rw [hW0]; exact boxed 2 rfl (by simp))
  have e03 : ∀ w', (Ext W0) w' → w'.cell? ⟨w.heap.size, 3, none⟩ = some (.int .i64 k) := fun w' h => h.cellOf (by rw [hW0]; exact boxed 3 rfl (by simp))
  have e04 : ∀ w', (Ext W0) w' → w'.cell? ⟨w.heap.size, 4, none⟩ = some (.int .i64 r) := fun w' h => h.cellOf (by rw [hW0]; exact boxed 4 rfl (by simp))
  have PS := Lib.hid (fun w => incText_spec ⟨t, f, s, k, r⟩ w)
  have PI := Lib.hid (fun (w' : World) (h : Ext W0 w') => incText_impl ⟨t, f, s, k, r⟩ w' (HT.out.ext (hX.trans h)))
  generalize itT ⟨t, f, s, k, r⟩ = T at *
  go_enter Tryd.func4, Tryd.ntmps4
  go_wp2_with fail
  rw [← hW0]
  clear hW0
  refine (toIncident_any _ _ _ _ _ _).mono ?_
  rintro e w1 ⟨rfl, hz⟩
  go_wp2_with fail
  refine (PS.out _).mono ?_
  rintro e w2 ⟨rfl, hy⟩
  replace hz := hz.trans hy
  have g0 := e00 w2 hz; have g1 := e01 w2 hz; have g2 := e02 w2 hz; have g3 := e03 w2 hz; have g4 := e04 w2 hz
  clear hy
  go_wp2_with fail
  refine (toIncident_any _ _ _ _ _ _).mono ?_
  rintro e w3 ⟨rfl, hy⟩
  replace hz := hz.trans hy
  clear hy g0 g1 g2 g3 g4
  go_wp2_with fail
  refine (PI.out _ hz).mono ?_
  rintro e w4 ⟨rfl, hy⟩
  go_wp2
  go_ret
  exact ⟨rfl, hX.trans (hz.trans hy)⟩

theorem own : ownKnob Tryd.prog.godebug = none := by kernel_rfl
theorem laidOut : laidOutB Tryd.prog = true := Clo.laid

theorem laid_met (os : Os) (args : Array Value) : laidMet Tryd.prog Rows.fnExactIncidentTextRow.laid ((Laid.laidWorld os).forCall (fun _ _ => 0) ⟨#[], args, []⟩).memory :=
  laidMet_of_run' 8 (by kernel_rfl) (by kernel_rfl)
theorem reads (os : Os) {H : Type} (enc : TypeId × Value → H) : ∃ places, DataW.whole enc Tryd.prog ((Laid.laidWorld os).forCall (fun _ _ => 0) ⟨#[], #[.agg #[.int .i64 0, .int .i64 0, .int .i64 0, .int .i64 0, .int .i64 0]], []⟩).memory Tryd.f4.params.toList Rows.fnExactIncidentTextSpec.vars false (#[.agg #[.int .i64 0, .int .i64 0, .int .i64 0, .int .i64 0, .int .i64 0]] : Array Value).toList 8 = some ([.agg [.lit (.int .i64 0), .lit (.int .i64 0), .lit (.int .i64 0), .lit (.int .i64 0), .lit (.int .i64 0)]], [], places) :=
  ⟨[], by kernel_rfl⟩

set_option maxRecDepth 100000 in
theorem lifted (os : Os) (started : os.Started) (H : Type) (enc : TypeId × Value → H) (F : Stop.Interp) :
    ReturnsInHanded {} Tryd.checked os 4 .any ((OpenSpec.ofChange Rows.fnExactIncidentTextSpec).preRow enc Tryd.prog Tryd.f4 Rows.fnExactIncidentTextRow.domain false Rows.fnExactIncidentTextRow.laid) (((OpenSpec.ofChange Rows.fnExactIncidentTextSpec).at F).post enc Tryd.prog Tryd.f4 false true false false) := by
  obtain ⟨places, hx0⟩ := reads os enc
  refine returnsInHanded_of_row (C := Tryd.checked) (s := OpenSpec.ofChange Rows.fnExactIncidentTextSpec) own started (by kernel_rfl) Tryd.func4
    (witness_row_atRef (enc := enc) (C := Tryd.checked) false (Laid.laidWorld os) #[.agg #[.int .i64 0, .int .i64 0, .int .i64 0, .int .i64 0, .int .i64 0]] rfl (by kernel_rfl) (by kernel_rfl) (by kernel_rfl)
      (OpenSpec.preRow_of_cond 8 hx0 (by kernel_rfl) (fun k hk => by cases hk) (by kernel_rfl) (laid_met os _))) ?_
  clear hx0
  intro W base args ds gs before hval0 hW hcnd _ _ hL hsh _
  have hval : ∀ (j : Nat) t v, Tryd.f4.params[j]? = some t → args[j]? = some v → Value.okWide Tryd.prog W .any base t v := hval0
  have hW' := hW
  obtain ⟨p, q, hA0, hV, rfl, hfz, hnd⟩ := hW
  have hA : DataW.TrodAll enc Tryd.prog W 0 (fun _ => true) true Tryd.f4.params.toList args.toList ds p := hA0
  rw [Tryd.params4] at hA hval
  obtain ⟨v0, vs0, d0, ds0, p0, q0, hargs, rfl, rfl, h0, r0⟩ := trodAll_cons hA
  obtain ⟨rfl, rfl, rfl⟩ := trodAll_nil r0
  obtain rfl : args = #[v0] := by cases args; simp_all
  obtain ⟨rfl, rfl⟩ := trodVars_none hV
  have k0 := h0
  have lt0 : ∀ x ∈ p0, x.block < W.heap.size := by obtain ⟨m, hm⟩ := k0; exact DataW.trod_lt m _ _ _ hm
  obtain ⟨a0, b0, c0, x0, y0, rfl⟩ := OpnI.open_inc Tryd.underlying30 (by kernel_rfl) ⟨rfl, by kernel_rfl⟩ ⟨rfl, by kernel_rfl⟩ ⟨rfl, by kernel_rfl⟩ ⟨rfl, by kernel_rfl⟩ ⟨rfl, by kernel_rfl⟩ Tryd.underlying2 Tryd.underlying2 Tryd.underlying2 Tryd.underlying2 Tryd.underlying2 (hval 0 30 v0 rfl rfl) h0
  have hL' : laidMet Tryd.prog Rows.fnExactIncidentTextRow.laid W := hL
  have e1 : Txt.Tab W := Lib.tabIs_of_head (k := .u64) (zs := Lib.pow10Tab) Txt.tabBlock (by kernel_rfl) Tryd.underlying88 Tryd.underlying74 (by kernel_rfl) (by kernel_rfl) (hL'.tail.tail)
  have hE : Txt.Tab W := e1
  clear hA0 hval0
  refine (walk a0 b0 c0 x0 y0 W hE).mono fun e W' ⟨he, hx⟩ => ?_
  have bel := hx.below
  subst he
  exact ⟨_, rfl, _, _, _, [], _, [], hW', trodAll_mk1 (shut_bool Tryd.underlying4 _), (trodAll_cons_mk (Below.trod laidOut (by kernel_rfl) (of_decide_eq_true (by kernel_rfl)) k0 bel lt0) trodAll_mk0), rfl, bel.frame _, fun h => by cases h⟩

set_option maxRecDepth 100000 in
set_option maxHeartbeats 400000000 in
theorem closed : joinedFacts Tryd.pinned.checked.prog 4 Tryd.f4 Rows.fnExactIncidentTextSpec Rows.fnExactIncidentTextRow = true := by
  unfold joinedFacts
  simp only [Bool.and_eq_true]
  repeat' (with_reducible refine And.intro ?_ ?_)
  all_goals (first | (with_reducible exact Clo.laid) | (with_reducible exact Clo.rowed) | (with_reducible exact Clo.heard) | (with_reducible exact Clo.enter) | (rw [Clo.lifts]; rfl) | (rw [Clo.made]; rfl) | (as_aux_lemma => kernel_rfl))

theorem said : Rows.FnExactIncidentTextSaid :=
  OpenClaim.holds_of_cond 4 Tryd.f4 rfl rfl rfl rfl rfl rfl rfl ⟨rfl, rfl, rfl, rfl, rfl⟩ rfl rfl rfl rfl rfl (by kernel_rfl) Tryd.func4 (by kernel_rfl)
    (of_decide_eq_true (by kernel_rfl)) (by unfold Func.isWrapper; first | (rw [if_pos (by decide +kernel)]; kernel_rfl) | (rw [if_neg (by decide +kernel)]; exact ⟨rfl, rfl⟩))
    (fun os started H enc _ F => by rw [OpenClaim.pre_eq_preRow]; exact lifted os started H enc F)

theorem plain (f : FuncId) (fn : Func) (hf : Tryd.pinned.checked.prog.funcNamed "loop.example/g00887/laws.FnExactIncidentText" = some f) (hfn : Tryd.pinned.checked.prog.funcs[f]? = some fn) :
    true = Tryd.pinned.checked.prog.looks [] ∧ ∀ (j : Nat) t, fn.params[j]? = some t → Tryd.pinned.checked.prog.wantsStandIn t = false := by
  obtain rfl : f = 4 := Option.some.inj ((show Tryd.prog.funcNamed "loop.example/g00887/laws.FnExactIncidentText" = some 4 by kernel_rfl).symm.trans hf) |>.symm
  obtain rfl : fn = Tryd.f4 := (Option.some.inj (Tryd.func4.symm.trans hfn)).symm
  refine ⟨by kernel_rfl, fun j t ht => ?_⟩
  rw [Tryd.params4] at ht
  obtain rfl : t = 30 := by simpa using Array.mem_of_getElem? ht
  exact (show Tryd.prog.wantsStandIn 30 = false by kernel_rfl)

theorem proved : Rows.FnExactIncidentTextCardSaid :=
  Claim7.holds_tied_plain_at .later [] _ _ _ _ said (fun _ h => by cases h) (by kernel_rfl) (fun _ h => by cases h) fnExactIncidentText_row_tie rfl ⟨rfl, rfl⟩ (by kernel_rfl) rfl plain (by kernel_rfl)

end Go.Proofs.YtknelhceaoblhaaDoor.fnExactIncidentText
