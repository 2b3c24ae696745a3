/- FnRoomOrder: for every code, the room between the drawn hulls is the reference model's, it is mirrored if they are exchanged, and it is a room. No condition. -/
import Derived.Test.YtcangdcakgcpaaaDrawRc
import Derived.Test.YtcangdcakgcpaaaRm3
import Derived.Test.YtcangdcakgcpaaaRmx
import Derived.Test.YtcangdcakgcpaaaRoomMath
import Derived.Test.YtcangdcakgcpaaaBig
import Derived.ChangeOld
import Derived.Below
import Derived.Lib.SmallJoins
import Derived.Deep.DeepCutAuto
namespace Go.Proofs.Ytcangdcakgcpaaa.fnRoomOrder
open Go.ChangeShapes Go.WideShapes Go.ChangeAt Go.RowKit
open Go.Proofs.Ytcangdcakgcpaaa.Kit Go.Proofs.Ytcangdcakgcpaaa.Num Go.Proofs.Ytcangdcakgcpaaa.Draw Go.Proofs.Ytcangdcakgcpaaa.Pts Go.Proofs.Ytcangdcakgcpaaa.Hul Go.Proofs.Ytcangdcakgcpaaa.Wnd Go.Proofs.Ytcangdcakgcpaaa.Rom Go.Proofs.Ytcangdcakgcpaaa.RmT Go.Proofs.Ytcangdcakgcpaaa.Rmx
open Go.Proofs.Ytcangdcakgcpaaa.Crs (MkV)
set_option linter.unusedVariables false
set_option linter.unusedSimpArgs false

set_option maxRecDepth 100000 in
set_option maxHeartbeats 16000000 in
theorem walk (f : Option Addr) (len cap : Nat) (zs : List Int) (w : World) (hr : IsRow .u8 w f len cap zs) :
    Calls Try.prog 4 #[.slice f len cap] w fun e w' => e = .returned (.bool true) ∧ Ext w w' := by
  have HB := Lib.hid hr.bytes
  clear hr
  by_cases hl : 4096 < len
  · have g := show bigB len = true from decide_eq_true hl
    go_enter Try.func4, Try.ntmps4
    go_wp2_with (go_at_call 12; refine (big_any _ _ _ _).mono ?_; rintro e w' ⟨rfl, rfl⟩)
    go_ret
    exact ⟨rfl, Ext.refl _⟩
  have g := show bigB len = false from decide_eq_false hl
  go_enter Try.func4, Try.ntmps4
  go_wp2_with fail
  refine (big_any _ _ _ _).mono ?_
  rintro e w' ⟨rfl, rfl⟩
  go_wp2_with fail
  refine (drawRoomBetween_any f len cap _ HB.out (by omega)).mono ?_
  rintro e w1 ⟨x, y, N, X, Y, S, Z, a, b, c, d, n, p, q, u, v, m, rfl, hx⟩
  obtain ⟨W2, hW2⟩ : ∃ W2, W2 = (((w1.alloc (.cells #[.int .i64 x, .int .i64 y] 25)).alloc (.cells #[.string N, .int .i64 X, .int .i64 Y, .int .i64 S, .int .i64 Z] 45)).alloc (.cells #[.int .i64 a, .int .i64 b, .int .i64 c, .int .i64 d, .int .i64 n] 39)).alloc (.cells #[.int .i64 p, .int .i64 q, .int .i64 u, .int .i64 v, .int .i64 m] 39) := ⟨_, rfl⟩
  have X2 : Ext w1 W2 := hW2 ▸ (((((Ext.refl w1).alloc _).alloc _).alloc _).alloc _)
  have XW := Lib.hid (hx.trans X2)
  have epw0 : ∀ w', Ext W2 w' → w'.cell? ⟨w1.heap.size, 0, none⟩ = some (.int .i64 x) := fun w' h => h.cellOf (hW2 ▸ ((((Ext.refl _).alloc _).alloc _).alloc _).cellOf (boxed 0 rfl (by simp)))
  have epw1 : ∀ w', Ext W2 w' → w'.cell? ⟨w1.heap.size, 1, none⟩ = some (.int .i64 y) := fun w' h => h.cellOf (hW2 ▸ ((((Ext.refl _).alloc _).alloc _).alloc _).cellOf (boxed 1 rfl (by simp)))
  have epm0 : ∀ w', Ext W2 w' → w'.cell? ⟨w1.heap.size + 1, 0, none⟩ = some (.string N) := fun w' h => h.cellOf (hW2 ▸ (((Ext.refl _).alloc _).alloc _).cellOf (boxed 0 rfl (by simp)))
  have epm1 : ∀ w', Ext W2 w' → w'.cell? ⟨w1.heap.size + 1, 1, none⟩ = some (.int .i64 X) := fun w' h => h.cellOf (hW2 ▸ (((Ext.refl _).alloc _).alloc _).cellOf (boxed 1 rfl (by simp)))
  have epm2 : ∀ w', Ext W2 w' → w'.cell? ⟨w1.heap.size + 1, 2, none⟩ = some (.int .i64 Y) := fun w' h => h.cellOf (hW2 ▸ (((Ext.refl _).alloc _).alloc _).cellOf (boxed 2 rfl (by simp)))
  have epm3 : ∀ w', Ext W2 w' → w'.cell? ⟨w1.heap.size + 1, 3, none⟩ = some (.int .i64 S) := fun w' h => h.cellOf (hW2 ▸ (((Ext.refl _).alloc _).alloc _).cellOf (boxed 3 rfl (by simp)))
  have epm4 : ∀ w', Ext W2 w' → w'.cell? ⟨w1.heap.size + 1, 4, none⟩ = some (.int .i64 Z) := fun w' h => h.cellOf (hW2 ▸ (((Ext.refl _).alloc _).alloc _).cellOf (boxed 4 rfl (by simp)))
  have epa0 : ∀ w', Ext W2 w' → w'.cell? ⟨w1.heap.size + 1 + 1, 0, none⟩ = some (.int .i64 a) := fun w' h => h.cellOf (hW2 ▸ ((Ext.refl _).alloc _).cellOf (boxed 0 rfl (by simp)))
  have epa1 : ∀ w', Ext W2 w' → w'.cell? ⟨w1.heap.size + 1 + 1, 1, none⟩ = some (.int .i64 b) := fun w' h => h.cellOf (hW2 ▸ ((Ext.refl _).alloc _).cellOf (boxed 1 rfl (by simp)))
  have epa2 : ∀ w', Ext W2 w' → w'.cell? ⟨w1.heap.size + 1 + 1, 2, none⟩ = some (.int .i64 c) := fun w' h => h.cellOf (hW2 ▸ ((Ext.refl _).alloc _).cellOf (boxed 2 rfl (by simp)))
  have epa3 : ∀ w', Ext W2 w' → w'.cell? ⟨w1.heap.size + 1 + 1, 3, none⟩ = some (.int .i64 d) := fun w' h => h.cellOf (hW2 ▸ ((Ext.refl _).alloc _).cellOf (boxed 3 rfl (by simp)))
  have epa4 : ∀ w', Ext W2 w' → w'.cell? ⟨w1.heap.size + 1 + 1, 4, none⟩ = some (.int .i64 n) := fun w' h => h.cellOf (hW2 ▸ ((Ext.refl _).alloc _).cellOf (boxed 4 rfl (by simp)))
  have epb0 : ∀ w', Ext W2 w' → w'.cell? ⟨w1.heap.size + 1 + 1 + 1, 0, none⟩ = some (.int .i64 p) := fun w' h => h.cellOf (hW2 ▸ boxed 0 rfl (by simp))
  have epb1 : ∀ w', Ext W2 w' → w'.cell? ⟨w1.heap.size + 1 + 1 + 1, 1, none⟩ = some (.int .i64 q) := fun w' h => h.cellOf (hW2 ▸ boxed 1 rfl (by simp))
  have epb2 : ∀ w', Ext W2 w' → w'.cell? ⟨w1.heap.size + 1 + 1 + 1, 2, none⟩ = some (.int .i64 u) := fun w' h => h.cellOf (hW2 ▸ boxed 2 rfl (by simp))
  have epb3 : ∀ w', Ext W2 w' → w'.cell? ⟨w1.heap.size + 1 + 1 + 1, 3, none⟩ = some (.int .i64 v) := fun w' h => h.cellOf (hW2 ▸ boxed 3 rfl (by simp))
  have epb4 : ∀ w', Ext W2 w' → w'.cell? ⟨w1.heap.size + 1 + 1 + 1, 4, none⟩ = some (.int .i64 m) := fun w' h => h.cellOf (hW2 ▸ boxed 4 rfl (by simp))
  go_upto_region 4 with fail
  rw [← hW2]
  clear hW2 X2 hx
  generalize w1.heap.size = h1 at *
  have KI := Lib.hid (fun w => roomBetween_impl x y N X Y S Z a b c d n p q u v m w)
  have KS := Lib.hid (fun w => roomBetween_spec x y N X Y S Z a b c d n p q u v m w)
  have KX := Lib.hid (fun w => roomBetween_impl x y N X Y S Z p q u v m a b c d n w)
  have HF := Lib.hid (rb_facts x y X Y a b c d n p q u v m)
  generalize rbG x y X Y a b c d n p q u v m = K at *
  generalize rbR x y X Y a b c d n p q u v m = Q at *
  generalize rbG x y X Y p q u v m a b c d n = K2 at *
  generalize rbR x y X Y p q u v m a b c d n = Q2 at *
  generalize rbC x y X Y a b c d n p q u v m = G at *
  generalize rbC x y X Y p q u v m a b c d n = G2 at *
  have pw0 := epw0 _ (Ext.refl _)
  have pw1 := epw1 _ (Ext.refl _)
  have pm0 := epm0 _ (Ext.refl _)
  have pm1 := epm1 _ (Ext.refl _)
  have pm2 := epm2 _ (Ext.refl _)
  have pm3 := epm3 _ (Ext.refl _)
  have pm4 := epm4 _ (Ext.refl _)
  have pa0 := epa0 _ (Ext.refl _)
  have pa1 := epa1 _ (Ext.refl _)
  have pa2 := epa2 _ (Ext.refl _)
  have pa3 := epa3 _ (Ext.refl _)
  have pa4 := epa4 _ (Ext.refl _)
  have pb0 := epb0 _ (Ext.refl _)
  have pb1 := epb1 _ (Ext.refl _)
  have pb2 := epb2 _ (Ext.refl _)
  have pb3 := epb3 _ (Ext.refl _)
  have pb4 := epb4 _ (Ext.refl _)
  go_wp2_with fail
  refine (KI.out _).mono ?_
  rintro e w3 ⟨rfl, hy⟩
  obtain ⟨W3, hW3⟩ : ∃ W3, W3 = w3.alloc (.cells #[.int .i64 K, .int .i64 Q] 49) := ⟨_, rfl⟩
  have X3 : Ext W2 W3 := hW3 ▸ hy.alloc _
  have P3 := Lib.hid (show Kit.Box W3 w3.heap.size [.int .i64 K, .int .i64 Q] from hW3 ▸ Kit.Box.new2 rfl)
  go_upto_region 5 with fail
  rw [← hW3]
  clear hW3 hy
  generalize w3.heap.size = h3 at *
  clear pw0 pw1 pm0 pm1 pm2 pm3 pm4 pa0 pa1 pa2 pa3 pa4 pb0 pb1 pb2 pb3 pb4
  have pw0 := epw0 _ (X3)
  have pw1 := epw1 _ (X3)
  have pm0 := epm0 _ (X3)
  have pm1 := epm1 _ (X3)
  have pm2 := epm2 _ (X3)
  have pm3 := epm3 _ (X3)
  have pm4 := epm4 _ (X3)
  have pa0 := epa0 _ (X3)
  have pa1 := epa1 _ (X3)
  have pa2 := epa2 _ (X3)
  have pa3 := epa3 _ (X3)
  have pa4 := epa4 _ (X3)
  have pb0 := epb0 _ (X3)
  have pb1 := epb1 _ (X3)
  have pb2 := epb2 _ (X3)
  have pb3 := epb3 _ (X3)
  have pb4 := epb4 _ (X3)
  go_wp2_with fail
  refine (KX.out _).mono ?_
  rintro e w4 ⟨rfl, hy⟩
  obtain ⟨W4, hW4⟩ : ∃ W4, W4 = w4.alloc (.cells #[.int .i64 K2, .int .i64 Q2] 49) := ⟨_, rfl⟩
  have X4 : Ext W3 W4 := hW4 ▸ hy.alloc _
  have P4 := Lib.hid (show Kit.Box W4 w4.heap.size [.int .i64 K2, .int .i64 Q2] from hW4 ▸ Kit.Box.new2 rfl)
  replace P3 := Lib.hid (P3.out.ext X4)
  go_upto_region 6 with fail
  rw [← hW4]
  clear hW4 hy
  generalize w4.heap.size = h4 at *
  clear pw0 pw1 pm0 pm1 pm2 pm3 pm4 pa0 pa1 pa2 pa3 pa4 pb0 pb1 pb2 pb3 pb4
  have X24 := X3.trans X4
  have pw0 := epw0 _ (X24)
  have pw1 := epw1 _ (X24)
  have pm0 := epm0 _ (X24)
  have pm1 := epm1 _ (X24)
  have pm2 := epm2 _ (X24)
  have pm3 := epm3 _ (X24)
  have pm4 := epm4 _ (X24)
  have pa0 := epa0 _ (X24)
  have pa1 := epa1 _ (X24)
  have pa2 := epa2 _ (X24)
  have pa3 := epa3 _ (X24)
  have pa4 := epa4 _ (X24)
  have pb0 := epb0 _ (X24)
  have pb1 := epb1 _ (X24)
  have pb2 := epb2 _ (X24)
  have pb3 := epb3 _ (X24)
  have pb4 := epb4 _ (X24)
  go_wp2_with fail
  refine (KS.out _).mono ?_
  rintro e w5 ⟨rfl, hy⟩
  obtain ⟨W5, hW5⟩ : ∃ W5, W5 = w5.alloc (.cells #[.int .i64 K, .int .i64 Q] 49) := ⟨_, rfl⟩
  have X5 : Ext W4 W5 := hW5 ▸ hy.alloc _
  have P5 := Lib.hid (show Kit.Box W5 w5.heap.size [.int .i64 K, .int .i64 Q] from hW5 ▸ Kit.Box.new2 rfl)
  replace P3 := Lib.hid (P3.out.ext X5)
  replace P4 := Lib.hid (P4.out.ext X5)
  go_upto_region 7 with fail
  rw [← hW5]
  clear hW5 hy
  generalize w5.heap.size = h5 at *
  clear pw0 pw1 pm0 pm1 pm2 pm3 pm4 pa0 pa1 pa2 pa3 pa4 pb0 pb1 pb2 pb3 pb4
  have X25 := X24.trans X5
  clear epw0 epw1 epm0 epm1 epm2 epm3 epm4 epa0 epa1 epa2 epa3 epa4 epb0 epb1 epb2 epb3 epb4
  obtain ⟨⟨c0, c1⟩, _⟩ := P3.out.two
  obtain ⟨⟨d0, d1⟩, _⟩ := P4.out.two
  obtain ⟨⟨b0, b1⟩, _⟩ := P5.out.two
  rcases HF.out with ⟨rfl, rfl⟩ | ⟨rfl, rfl, hv, rfl, hkk⟩
  · go_wp2
    go_ret
    exact ⟨rfl, XW.out.trans X25⟩
  have KV := Lib.hid (fun w => isRoom_impl K Q2 w)
  rw [hv] at KV
  have HKK := Lib.hid hkk
  clear hv hkk HF
  rcases HKK.out with ⟨rfl, rfl⟩ | ⟨rfl, rfl⟩ | ⟨rfl, rfl⟩
  all_goals
    go_wp2_with fail
    refine (KV.out _).mono ?_
    rintro e w6 ⟨rfl, hy⟩
    go_wp2
    go_ret
    exact ⟨rfl, XW.out.trans (X25.trans hy)⟩

end Go.Proofs.Ytcangdcakgcpaaa.fnRoomOrder
