/- FnRoomText: for every code, the text of the drawn room is the reference model's, it is read back if it is not empty, and it is not empty exactly if the room is valid. No condition but the tied variables of the card. -/
import Derived.Test.YtcangdcakgcpaaaDoorDrawRm
import Derived.Test.YtcangdcakgcpaaaDoorRmx2
import Derived.Test.YtcangdcakgcpaaaDoorBig
import Derived.ChangeOld
import Derived.Below
import Derived.Lib.SmallJoins
import Derived.Deep.DeepCutAuto
namespace Go.Proofs.YtcangdcakgcpaaaDoor.fnRoomText
open Go.ChangeShapes Go.WideShapes Go.ChangeAt Go.RowKit
open Go.ChangeMaps (open_string shut_string)
open Go.Proofs.YtcangdcakgcpaaaDoor.Kit Go.Proofs.YtcangdcakgcpaaaDoor.Num Go.Proofs.YtcangdcakgcpaaaDoor.Txt Go.Proofs.YtcangdcakgcpaaaDoor.Draw Go.Proofs.YtcangdcakgcpaaaDoor.Rmx Go.Proofs.YtcangdcakgcpaaaDoor.RmT
set_option linter.unusedVariables false
set_option linter.unusedSimpArgs false

theorem mt_small (k r : Int) : (mtT k r).length ≤ 2000000 := by
  cases h : rmB k r
  · rw [mt_no h]; decide
  · rw [mt_yes h]
    have := mw_len r
    simp only [List.length_cons]
    omega
/-- What is read back. -/
theorem mt_back (k r : Int) : (rmB k r = true ∧ mdB (mtT k r) = true ∧ mdK (mtT k r) = k ∧ mdR (mtT k r) = r ∧ (∃ x l, mtT k r = x :: l)) ∨ (rmB k r = false ∧ mdB (mtT k r) = false ∧ mdK (mtT k r) = 0 ∧ mdR (mtT k r) = 0 ∧ mtT k r = []) := by
  cases h : rmB k r
  · have e := mt_no h
    have g := md_no (show mdF (mtT k r) = none from md_none fun p hp => by rw [e]; unfold mtL; simp)
    exact .inr ⟨rfl, g.2.2, g.1, g.2.1, e⟩
  · have g := md_yes (md_some h (rfl : mtT k r = mtT k r))
    exact .inl ⟨rfl, g.2.2, g.1, g.2.1, ⟨_, _, mt_yes h⟩⟩

set_option maxRecDepth 100000 in
set_option maxHeartbeats 8000000 in
theorem walk (f : Option Addr) (len cap : Nat) (zs : List Int) (w : World) (hr : IsRow .u8 w f len cap zs) (hE : Env w) :
    Calls Tryd.prog 3 #[.slice f len cap] w fun e w' => e = .returned (.bool true) ∧ Ext w w' := by
  have HB := Lib.hid hr.bytes
  have HE := Lib.hid hE
  clear hr hE
  by_cases hl : 4096 < len
  · have g := show bigB len = true from decide_eq_true hl
    go_enter Tryd.func3, Tryd.ntmps3
    go_wp2_with (go_at_call 6; refine (big_any _ _ _ _).mono ?_; rintro e w' ⟨rfl, rfl⟩)
    go_ret
    exact ⟨rfl, Ext.refl _⟩
  have g := show bigB len = false from decide_eq_false hl
  go_enter Tryd.func3, Tryd.ntmps3
  go_wp2_with fail
  refine (big_any _ _ _ _).mono ?_
  rintro e w' ⟨rfl, rfl⟩
  go_wp2_with fail
  refine (drawRoomText_any f len cap _ HB.out (by omega)).mono ?_
  rintro e w1 ⟨k, r, rfl, hx⟩
  obtain ⟨W2, hW2⟩ : ∃ W2, W2 = w1.alloc (.cells #[.int .i64 k, .int .i64 r] 25) := ⟨_, rfl⟩
  have X2 := Lib.hid (show Ext w W2 from hW2 ▸ hx.alloc _)
  have P2 := Lib.hid (show Kit.Box W2 w1.heap.size [.int .i64 k, .int .i64 r] from hW2 ▸ Kit.Box.new2 rfl)
  have HE2 := Lib.hid (HE.out.ext X2.out)
  go_upto_region 4 with fail
  rw [← hW2]
  clear hW2 hx HE HB g hl
  generalize w1.heap.size = h1 at *
  have KT := Lib.hid (fun (w : World) (h : Tab w) => roomText_impl k r w h)
  have KS := Lib.hid (fun (w : World) => roomText_spec k r w)
  have KV := Lib.hid (fun (w : World) => isRoom_impl k r w)
  have KR := Lib.hid (fun (w : World) (h : Env w) => readRoom_impl (mtT k r) w h (mt_small k r))
  obtain ⟨⟨c0, c1⟩, _⟩ := P2.out.two
  rcases mt_back k r with ⟨b1, b2, b3, b4, x, l, b5⟩ | ⟨b1, b2, b3, b4, b5⟩
  · rw [b2, b3, b4] at KR
    rw [b1] at KV
    rw [b5] at KT KS KR
    clear b1 b2 b3 b4 b5
    go_wp2_with fail
    refine (KT.out _ HE2.out.1).mono ?_
    rintro e w3 ⟨rfl, hy⟩
    have P3 := Lib.hid (P2.out.ext hy)
    have HE3 := Lib.hid (HE2.out.ext hy)
    have X3 := Lib.hid (X2.out.trans hy)
    clear hy c0 c1
    go_wp2_with fail
    refine (KR.out _ HE3.out).mono ?_
    rintro e w4 ⟨rfl, hy⟩
    obtain ⟨W5, hW5⟩ : ∃ W5, W5 = w4.alloc (.cells #[.int .i64 k, .int .i64 r] 25) := ⟨_, rfl⟩
    have x5 : Ext w3 W5 := hW5 ▸ hy.alloc _
    have P5 := Lib.hid (show Kit.Box W5 w4.heap.size [.int .i64 k, .int .i64 r] from hW5 ▸ Kit.Box.new2 rfl)
    replace P3 := Lib.hid (P3.out.ext x5)
    have X5 := Lib.hid (X3.out.trans x5)
    go_upto_region 6 with fail
    rw [← hW5]
    clear hW5 hy x5
    generalize w4.heap.size = h5 at *
    have c0 : ∀ w', Ext W5 w' → w'.cell? ⟨h1, 0, none⟩ = some (.int .i64 k) := fun w' h => (P3.out.ext h).two.1.1
    have c1 : ∀ w', Ext W5 w' → w'.cell? ⟨h1, 1, none⟩ = some (.int .i64 r) := fun w' h => (P3.out.ext h).two.1.2
    have d0 : ∀ w', Ext W5 w' → w'.cell? ⟨h5, 0, none⟩ = some (.int .i64 k) := fun w' h => (P5.out.ext h).two.1.1
    have d1 : ∀ w', Ext W5 w' → w'.cell? ⟨h5, 1, none⟩ = some (.int .i64 r) := fun w' h => (P5.out.ext h).two.1.2
    have f0 := c0 _ (Ext.refl _); have f1 := c1 _ (Ext.refl _)
    go_wp2_with fail
    refine (KS.out _).mono ?_
    rintro e w6 ⟨rfl, hy⟩
    clear f0 f1
    have f0 := c0 _ hy; have f1 := c1 _ hy; have f2 := d0 _ hy; have f3 := d1 _ hy
    go_wp2_with fail
    refine (KV.out _).mono ?_
    rintro e w7 ⟨rfl, hz⟩
    go_wp2
    go_ret
    exact ⟨rfl, X5.out.trans (hy.trans hz)⟩
  · rw [b2, b3, b4] at KR
    rw [b1] at KV
    rw [b5] at KT KS KR
    clear b1 b2 b3 b4 b5
    go_wp2_with fail
    refine (KT.out _ HE2.out.1).mono ?_
    rintro e w3 ⟨rfl, hy⟩
    have P3 := Lib.hid (P2.out.ext hy)
    have HE3 := Lib.hid (HE2.out.ext hy)
    have X3 := Lib.hid (X2.out.trans hy)
    clear hy c0 c1
    go_wp2_with fail
    refine (KR.out _ HE3.out).mono ?_
    rintro e w4 ⟨rfl, hy⟩
    obtain ⟨W5, hW5⟩ : ∃ W5, W5 = w4.alloc (.cells #[.int .i64 0, .int .i64 0] 25) := ⟨_, rfl⟩
    have x5 : Ext w3 W5 := hW5 ▸ hy.alloc _
    have P5 := Lib.hid (show Kit.Box W5 w4.heap.size [.int .i64 0, .int .i64 0] from hW5 ▸ Kit.Box.new2 rfl)
    replace P3 := Lib.hid (P3.out.ext x5)
    have X5 := Lib.hid (X3.out.trans x5)
    go_upto_region 6 with fail
    rw [← hW5]
    clear hW5 hy x5
    generalize w4.heap.size = h5 at *
    have c0 : ∀ w', Ext W5 w' → w'.cell? ⟨h1, 0, none⟩ = some (.int .i64 k) := fun w' h => (P3.out.ext h).two.1.1
    have c1 : ∀ w', Ext W5 w' → w'.cell? ⟨h1, 1, none⟩ = some (.int .i64 r) := fun w' h => (P3.out.ext h).two.1.2
    have d0 : ∀ w', Ext W5 w' → w'.cell? ⟨h5, 0, none⟩ = some (.int .i64 0) := fun w' h => (P5.out.ext h).two.1.1
    have d1 : ∀ w', Ext W5 w' → w'.cell? ⟨h5, 1, none⟩ = some (.int .i64 0) := fun w' h => (P5.out.ext h).two.1.2
    have f0 := c0 _ (Ext.refl _); have f1 := c1 _ (Ext.refl _)
    go_wp2_with fail
    refine (KS.out _).mono ?_
    rintro e w6 ⟨rfl, hy⟩
    clear f0 f1
    have f0 := c0 _ hy; have f1 := c1 _ hy; have f2 := d0 _ hy; have f3 := d1 _ hy
    go_wp2_with fail
    refine (KV.out _).mono ?_
    rintro e w7 ⟨rfl, hz⟩
    go_wp2
    go_ret
    exact ⟨rfl, X5.out.trans (hy.trans hz)⟩

end Go.Proofs.YtcangdcakgcpaaaDoor.fnRoomText
