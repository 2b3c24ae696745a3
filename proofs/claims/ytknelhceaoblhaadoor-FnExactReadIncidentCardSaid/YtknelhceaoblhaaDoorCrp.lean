/- Reading a course's text (impl): words, numbers, sides. -/
import Derived.Test.YtknelhceaoblhaaDoorRead
import Derived.Test.YtknelhceaoblhaaDoorCrw
namespace Go.Proofs.YtknelhceaoblhaaDoor.Crs
open Go.ChangeShapes Go.WideShapes Go.ChangeAt Go.RowKit
open Go.Proofs.YtknelhceaoblhaaDoor.Num Go.Proofs.YtknelhceaoblhaaDoor.Kit Go.Proofs.YtknelhceaoblhaaDoor.Txt Go.Proofs.YtknelhceaoblhaaDoor.TxtMath
set_option linter.unusedVariables false
set_option linter.unusedSimpArgs false

theorem parseInt_any (l : List UInt8) (w : World) (hE : Env w) (hl : l.length ≤ 2000000) :
    Calls Tryd.prog 50 #[St l, .int .i64 10, .int .i64 64] w fun e w' =>
      (e = .returned (.tuple #[.int .i64 (pI l), .nilIface]) ∧ Ext w w') ∨ (pI l = 0 ∧ ∃ (v : Int) (T : TypeId) (a : Addr), e = .returned (.tuple #[.int .i64 v, .iface T (.pointer (some a))]) ∧ Ext w w') := by
  have hsz : (⟨l.toArray⟩ : ByteArray).size = l.length := by simp [ByteArray.size]
  rcases h : Lib.parseIntB 64 l with u | _ | _
  · refine (Tryd.strconv_ParseInt_10_at64_ok ⟨l.toArray⟩ (by rw [hsz]; omega) u h w).mono fun e w' ⟨he, hw⟩ => .inl ⟨by unfold pI; rw [h]; exact he, ?_⟩
    rcases hw with rfl | ⟨t, rfl⟩
    · exact Ext.refl _
    · exact bytesWorld_ext _ _ _
  · obtain ⟨tp, p, hv⟩ := hE.2.2.1
    exact (Tryd.strconv_ParseInt_10_at64_syntax_var ⟨l.toArray⟩ (by rw [hsz]; omega) h tp p w hv).mono fun e w' ⟨N, he, _, _, hb⟩ => .inr ⟨by unfold pI; rw [h], _, _, _, he, hb⟩
  · obtain ⟨tp, p, hv⟩ := hE.2.2.2
    exact (Tryd.strconv_ParseInt_10_at64_range_var ⟨l.toArray⟩ (by rw [hsz]; omega) h tp p w hv).mono fun e w' ⟨N, he, _, _, hb⟩ => .inr ⟨by unfold pI; rw [h], _, _, _, he, hb⟩

theorem numberOf_any (l : List UInt8) (w : World) (hE : Env w) (hl : l.length ≤ 2000000) : Calls Tryd.prog 39 #[St l] w fun e w' => e = .returned (.int .i64 (pI l)) ∧ Ext w w' := by
  have K := Lib.hid (parseInt_any l w hE hl)
  go_enter Tryd.func39, Tryd.ntmps39
  go_wp2_with fail
  refine K.out.mono ?_
  rintro e w1 (⟨rfl, hx⟩ | ⟨h0, v, T, a, rfl, hx⟩)
  · go_wp2
    go_ret
    exact ⟨rfl, hx⟩
  · go_wp2
    go_ret
    exact ⟨congrArg (fun n => Ending.returned (Value.int .i64 n)) h0.symm, hx⟩

end Go.Proofs.YtknelhceaoblhaaDoor.Crs
