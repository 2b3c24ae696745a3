/- Marking a course of one's own, and finding its marks again. -/
import Derived.Test.YtmebaihacddhfaaSho3
namespace Go.Proofs.Ytmebaihacddhfaa.Crs
open Go.ChangeShapes Go.WideShapes Go.ChangeAt Go.RowKit
open Go.Proofs.Ytmebaihacddhfaa.Num Go.Proofs.Ytmebaihacddhfaa.Kit Go.Proofs.Ytmebaihacddhfaa.Pts Go.Proofs.Ytmebaihacddhfaa.Seg
set_option linter.unusedVariables false
set_option linter.unusedSimpArgs false

/-- A row that was marked from k on. -/
def HeldM (w : World) (base : Nat) (v : Value) (k n : Nat) : Prop := (v = .slice none 0 0 ∧ n = 0) ∨ ∃ g cap, v = .slice (some ⟨g, 0, none⟩) n cap ∧ base ≤ g ∧ MarkedM w g k n
theorem HeldM.ext {w w' : World} {base : Nat} {v : Value} {k n : Nat} (h : HeldM w base v k n) (x : Ext w w') : HeldM w' base v k n := by
  rcases h with h | ⟨g, cap, hv, hb, hm⟩
  · exact .inl h
  · exact .inr ⟨g, cap, hv, hb, fun i hi => (hm i hi).ext x⟩

theorem heldMarkS_zero (a : Option Addr) (cap k : Nat) (w : World) : Calls Try.prog 76 #[.slice a 0 cap, .int .i64 k] w fun e w' => e = .returned (.int .i64 k) ∧ w = w' := by
  go_enter Try.func76, Try.ntmps76
  go_wp2
  go_loopw [1, 5] (fun s i wr => i = .int .i64 0 ∧ s = .int .i64 k ∧ w = wr) (fun s i _ => 0)
  case atStart => exact ⟨rfl, rfl, rfl⟩
  case round =>
    obtain ⟨rfl, rfl, rfl⟩ := hrel
    go_wp2
    go_ret
    exact ⟨rfl, rfl⟩

set_option maxRecDepth 100000 in
set_option maxHeartbeats 1000000 in
theorem markCourse_own (l k : L4) (v : Value) (ms : List M5) (base q : Nat) (w : World) (h : OwnM w base v ms) (hb : base ≤ w.heap.size) (hn : ms.length ≤ 1048576) (k1 : q ≤ 10000000) :
    Calls Try.prog 33 #[CV l k v, .int .i64 q] w fun e w' => e = .returned (.int .i64 ((q + 5 * ms.length : Nat) : Int)) ∧ HeldM w' base v q ms.length ∧ ∃ C, base ≤ C ∧ (v.ownBlock = some C ∨ C = w.heap.size) ∧ Chg C w w' := by
  rcases h.cases with ⟨rfl, rfl⟩ | ⟨g, cap, rfl, hg, hO, hob⟩
  · clear h
    go_enter Try.func33, Try.ntmps33
    go_wp2_with fail
    refine (markMarkS_zero _ _ _ _).mono ?_
    rintro e w1 ⟨rfl, rfl⟩
    go_wp2
    go_ret
    exact ⟨by simp, .inl ⟨rfl, rfl⟩, w.heap.size, hb, .inr rfl, Chg.of_ext ((Ext.refl w).alloc _)⟩
  · have HO := Lib.hid hO
    clear h hO
    go_enter Try.func33, Try.ntmps33
    go_wp2_with fail
    refine (markMarkS_is _ _ _ _ _ (HO.out.roomM.ext ((Ext.refl w).alloc _)) hn k1).mono ?_
    rintro e w1 ⟨rfl, hM, hx⟩
    have X := Lib.hid ((Chg.of_ext ((Ext.refl w).alloc _)).trans hx)
    have M := Lib.hid hM
    clear hx hM
    go_wp2
    go_ret
    exact ⟨rfl, .inr ⟨g, cap, rfl, hg, M.out⟩, g, hg, .inl hob, X.out⟩

set_option maxRecDepth 100000 in
set_option maxHeartbeats 1000000 in
theorem heldCourse_own (l k : L4) (v : Value) (n base q : Nat) (w : World) (h : HeldM w base v q n) (hn : n ≤ 1048576) (k1 : q ≤ 10000000) :
    Calls Try.prog 44 #[CV l k v, .int .i64 q] w fun e w' => e = .returned (.int .i64 ((q + 5 * n : Nat) : Int)) ∧ Ext w w' := by
  have zn : decide (((q + 5 * n : Nat) : Int) < 0) = false := decide_eq_false (by omega)
  have zn2 : ¬ (((q + 5 * n : Nat) : Int) < 0) := by omega
  rcases h with ⟨rfl, rfl⟩ | ⟨g, cap, rfl, hg, hM⟩
  · have zm : decide ((q : Int) < 0) = false := decide_eq_false (by omega)
    have zm2 : ¬ ((q : Int) < 0) := by omega
    go_enter Try.func44, Try.ntmps44
    go_wp2_with fail
    refine (heldMarkS_zero _ _ _ _).mono ?_
    rintro e w1 ⟨rfl, rfl⟩
    go_wp2
    go_ret
    exact ⟨by simp, (Ext.refl w).alloc _⟩
  · have HM := Lib.hid hM
    clear hM
    go_enter Try.func44, Try.ntmps44
    go_wp2_with fail
    refine (heldMarkS_is _ _ _ _ _ (fun i hi => (HM.out i hi).ext ((Ext.refl w).alloc _)) hn k1).mono ?_
    rintro e w1 ⟨rfl, hx⟩
    have X := Lib.hid (((Ext.refl w).alloc _).trans hx)
    clear hx
    go_wp2
    go_ret
    exact ⟨rfl, X.out⟩

end Go.Proofs.Ytmebaihacddhfaa.Crs
