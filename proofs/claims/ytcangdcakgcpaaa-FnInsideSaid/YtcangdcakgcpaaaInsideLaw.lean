/- FnInside: for every code, the inside boat of the drawn hulls is the reference model's, the other one if they are exchanged, none of two alike, and room for an inside boat is given by the other one. No condition. -/
import Derived.Test.YtcangdcakgcpaaaDrawRc
import Derived.Test.YtcangdcakgcpaaaRm3
import Derived.Test.YtcangdcakgcpaaaRmx
import Derived.Test.YtcangdcakgcpaaaRoomMath
import Derived.Test.YtcangdcakgcpaaaBig
import Derived.ChangeOld
import Derived.Below
import Derived.Lib.SmallJoins
import Derived.Deep.DeepCutAuto
namespace Go.Proofs.Ytcangdcakgcpaaa.fnInside
open Go.ChangeShapes Go.WideShapes Go.ChangeAt Go.RowKit
open Go.Proofs.Ytcangdcakgcpaaa.Kit Go.Proofs.Ytcangdcakgcpaaa.Num Go.Proofs.Ytcangdcakgcpaaa.Draw Go.Proofs.Ytcangdcakgcpaaa.Pts Go.Proofs.Ytcangdcakgcpaaa.Hul Go.Proofs.Ytcangdcakgcpaaa.Wnd Go.Proofs.Ytcangdcakgcpaaa.Rom Go.Proofs.Ytcangdcakgcpaaa.RmT Go.Proofs.Ytcangdcakgcpaaa.Rmx
open Go.Proofs.Ytcangdcakgcpaaa.Crs (MkV)
set_option linter.unusedVariables false
set_option linter.unusedSimpArgs false

set_option maxRecDepth 100000 in
set_option maxHeartbeats 16000000 in
theorem walk (f : Option Addr) (len cap : Nat) (zs : List Int) (w : World) (hr : IsRow .u8 w f len cap zs) :
    Calls Try.prog 5 #[.slice f len cap] w fun e w' => e = .returned (.bool true) ∧ Ext w w' := by
  have HB := Lib.hid hr.bytes
  clear hr
  by_cases hl : 4096 < len
  · have g := show bigB len = true from decide_eq_true hl
    go_enter Try.func5, Try.ntmps5
    go_wp2_with (go_at_call 12; refine (big_any _ _ _ _).mono ?_; rintro e w' ⟨rfl, rfl⟩)
    go_ret
    exact ⟨rfl, Ext.refl _⟩
  have g := show bigB len = false from decide_eq_false hl
  go_enter Try.func5, Try.ntmps5
  go_wp2_with fail
  refine (big_any _ _ _ _).mono ?_
  rintro e w' ⟨rfl, rfl⟩
  go_wp2_with fail
  refine (drawInsideBoat_any f len cap _ HB.out (by omega)).mono ?_
  rintro e w1 ⟨N, X, Y, S, Z, a, b, c, d, n, p, q, u, v, m, rfl, hx⟩
  obtain ⟨W2, hW2⟩ : ∃ W2, W2 = ((w1.alloc (.cells #[.string N, .int .i64 X, .int .i64 Y, .int .i64 S, .int .i64 Z] 45)).alloc (.cells #[.int .i64 a, .int .i64 b, .int .i64 c, .int .i64 d, .int .i64 n] 39)).alloc (.cells #[.int .i64 p, .int .i64 q, .int .i64 u, .int .i64 v, .int .i64 m] 39) := ⟨_, rfl⟩
  have X2 : Ext w1 W2 := hW2 ▸ ((((Ext.refl w1).alloc _).alloc _).alloc _)
  have XW := Lib.hid (hx.trans X2)
  have epm0 : ∀ w', Ext W2 w' → w'.cell? ⟨w1.heap.size, 0, none⟩ = some (.string N) := fun w' h => h.cellOf (hW2 ▸ (((Ext.refl _).alloc _).alloc _).cellOf (boxed 0 rfl (by simp)))
  have epm1 : ∀ w', Ext W2 w' → w'.cell? ⟨w1.heap.size, 1, none⟩ = some (.int .i64 X) := fun w' h => h.cellOf (hW2 ▸ (((Ext.refl _).alloc _).alloc _).cellOf (boxed 1 rfl (by simp)))
  have epm2 : ∀ w', Ext W2 w' → w'.cell? ⟨w1.heap.size, 2, none⟩ = some (.int .i64 Y) := fun w' h => h.cellOf (hW2 ▸ (((Ext.refl _).alloc _).alloc _).cellOf (boxed 2 rfl (by simp)))
  have epm3 : ∀ w', Ext W2 w' → w'.cell? ⟨w1.heap.size, 3, none⟩ = some (.int .i64 S) := fun w' h => h.cellOf (hW2 ▸ (((Ext.refl _).alloc _).alloc _).cellOf (boxed 3 rfl (by simp)))
  have epm4 : ∀ w', Ext W2 w' → w'.cell? ⟨w1.heap.size, 4, none⟩ = some (.int .i64 Z) := fun w' h => h.cellOf (hW2 ▸ (((Ext.refl _).alloc _).alloc _).cellOf (boxed 4 rfl (by simp)))
  have epa0 : ∀ w', Ext W2 w' → w'.cell? ⟨w1.heap.size + 1, 0, none⟩ = some (.int .i64 a) := fun w' h => h.cellOf (hW2 ▸ ((Ext.refl _).alloc _).cellOf (boxed 0 rfl (by simp)))
  have epa1 : ∀ w', Ext W2 w' → w'.cell? ⟨w1.heap.size + 1, 1, none⟩ = some (.int .i64 b) := fun w' h => h.cellOf (hW2 ▸ ((Ext.refl _).alloc _).cellOf (boxed 1 rfl (by simp)))
  have epa2 : ∀ w', Ext W2 w' → w'.cell? ⟨w1.heap.size + 1, 2, none⟩ = some (.int .i64 c) := fun w' h => h.cellOf (hW2 ▸ ((Ext.refl _).alloc _).cellOf (boxed 2 rfl (by simp)))
  have epa3 : ∀ w', Ext W2 w' → w'.cell? ⟨w1.heap.size + 1, 3, none⟩ = some (.int .i64 d) := fun w' h => h.cellOf (hW2 ▸ ((Ext.refl _).alloc _).cellOf (boxed 3 rfl (by simp)))
  have epa4 : ∀ w', Ext W2 w' → w'.cell? ⟨w1.heap.size + 1, 4, none⟩ = some (.int .i64 n) := fun w' h => h.cellOf (hW2 ▸ ((Ext.refl _).alloc _).cellOf (boxed 4 rfl (by simp)))
  have epb0 : ∀ w', Ext W2 w' → w'.cell? ⟨w1.heap.size + 1 + 1, 0, none⟩ = some (.int .i64 p) := fun w' h => h.cellOf (hW2 ▸ boxed 0 rfl (by simp))
  have epb1 : ∀ w', Ext W2 w' → w'.cell? ⟨w1.heap.size + 1 + 1, 1, none⟩ = some (.int .i64 q) := fun w' h => h.cellOf (hW2 ▸ boxed 1 rfl (by simp))
  have epb2 : ∀ w', Ext W2 w' → w'.cell? ⟨w1.heap.size + 1 + 1, 2, none⟩ = some (.int .i64 u) := fun w' h => h.cellOf (hW2 ▸ boxed 2 rfl (by simp))
  have epb3 : ∀ w', Ext W2 w' → w'.cell? ⟨w1.heap.size + 1 + 1, 3, none⟩ = some (.int .i64 v) := fun w' h => h.cellOf (hW2 ▸ boxed 3 rfl (by simp))
  have epb4 : ∀ w', Ext W2 w' → w'.cell? ⟨w1.heap.size + 1 + 1, 4, none⟩ = some (.int .i64 m) := fun w' h => h.cellOf (hW2 ▸ boxed 4 rfl (by simp))
  go_upto_region 4 with fail
  rw [← hW2]
  clear hW2 X2 hx
  generalize w1.heap.size = h1 at *
  have KI := Lib.hid (fun w => insideBoat_impl N X Y S Z a b c d n p q u v m w)
  have KS := Lib.hid (fun w => insideBoat_spec N X Y S Z a b c d n p q u v m w)
  have KX := Lib.hid (fun w => insideBoat_impl N X Y S Z p q u v m a b c d n w)
  have KA := Lib.hid (fun w => insideBoat_impl N X Y S Z a b c d n a b c d n w)
  have KR := Lib.hid (fun w => roomBetween_impl 3 4 N X Y S Z a b c d n p q u v m w)
  have HF := Lib.hid (ib_facts X Y a b c d n p q u v m)
  generalize ibV X Y a b c d n p q u v m = K at *
  generalize ibV X Y p q u v m a b c d n = K2 at *
  generalize ibV X Y a b c d n a b c d n = K3 at *
  generalize rbG 3 4 X Y a b c d n p q u v m = G at *
  generalize rbR 3 4 X Y a b c d n p q u v m = Q at *
  generalize ibC X Y a b c d n p q u v m = C at *
  generalize ibC X Y p q u v m a b c d n = C2 at *
  generalize ibC X Y a b c d n a b c d n = C3 at *
  generalize rbC 3 4 X Y a b c d n p q u v m = C4 at *
  have pm0 := epm0 _ (Ext.refl _)
  have pm1 := epm1 _ (Ext.refl _)
  have pm2 := epm2 _ (Ext.refl _)
  have pm3 := epm3 _ (Ext.refl _)
  have pm4 := epm4 _ (Ext.refl _)
  have pa0 := epa0 _ (Ext.refl _)
  have pa1 := epa1 _ (Ext.refl _)
  have pa2 := epa2 _ (Ext.refl _)
  have pa3 := epa3 _ (Ext.refl _)
  have pa4 := epa4 _ (Ext.refl _)
  have pb0 := epb0 _ (Ext.refl _)
  have pb1 := epb1 _ (Ext.refl _)
  have pb2 := epb2 _ (Ext.refl _)
  have pb3 := epb3 _ (Ext.refl _)
  have pb4 := epb4 _ (Ext.refl _)
  go_wp2_with fail
  refine (KI.out _).mono ?_
  rintro e w3 ⟨rfl, hz⟩
  clear pm0 pm1 pm2 pm3 pm4 pa0 pa1 pa2 pa3 pa4 pb0 pb1 pb2 pb3 pb4
  have pm0 := epm0 _ (hz)
  have pm1 := epm1 _ (hz)
  have pm2 := epm2 _ (hz)
  have pm3 := epm3 _ (hz)
  have pm4 := epm4 _ (hz)
  have pa0 := epa0 _ (hz)
  have pa1 := epa1 _ (hz)
  have pa2 := epa2 _ (hz)
  have pa3 := epa3 _ (hz)
  have pa4 := epa4 _ (hz)
  have pb0 := epb0 _ (hz)
  have pb1 := epb1 _ (hz)
  have pb2 := epb2 _ (hz)
  have pb3 := epb3 _ (hz)
  have pb4 := epb4 _ (hz)
  go_wp2_with fail
  refine (KS.out _).mono ?_
  rintro e w4 ⟨rfl, hy⟩
  replace hz := hz.trans hy
  clear hy
  clear pm0 pm1 pm2 pm3 pm4 pa0 pa1 pa2 pa3 pa4 pb0 pb1 pb2 pb3 pb4
  rcases HF.out with rfl | ⟨rfl, rfl, rfl, rfl, rfl, hkk, hgv⟩
  · go_wp2
    go_ret
    exact ⟨rfl, XW.out.trans hz⟩
  have HKK := Lib.hid hkk
  have HGV := Lib.hid hgv
  clear hkk hgv HF
  have pm0 := epm0 _ (hz)
  have pm1 := epm1 _ (hz)
  have pm2 := epm2 _ (hz)
  have pm3 := epm3 _ (hz)
  have pm4 := epm4 _ (hz)
  have pa0 := epa0 _ (hz)
  have pa1 := epa1 _ (hz)
  have pa2 := epa2 _ (hz)
  have pa3 := epa3 _ (hz)
  have pa4 := epa4 _ (hz)
  have pb0 := epb0 _ (hz)
  have pb1 := epb1 _ (hz)
  have pb2 := epb2 _ (hz)
  have pb3 := epb3 _ (hz)
  have pb4 := epb4 _ (hz)
  go_wp2_with fail
  refine (KX.out _).mono ?_
  rintro e w5 ⟨rfl, hy⟩
  replace hz := hz.trans hy
  clear hy
  clear pm0 pm1 pm2 pm3 pm4 pa0 pa1 pa2 pa3 pa4 pb0 pb1 pb2 pb3 pb4
  have pm0 := epm0 _ (hz)
  have pm1 := epm1 _ (hz)
  have pm2 := epm2 _ (hz)
  have pm3 := epm3 _ (hz)
  have pm4 := epm4 _ (hz)
  have pa0 := epa0 _ (hz)
  have pa1 := epa1 _ (hz)
  have pa2 := epa2 _ (hz)
  have pa3 := epa3 _ (hz)
  have pa4 := epa4 _ (hz)
  go_wp2_with fail
  refine (KA.out _).mono ?_
  rintro e w6 ⟨rfl, hy⟩
  replace hz := hz.trans hy
  clear hy
  clear pm0 pm1 pm2 pm3 pm4 pa0 pa1 pa2 pa3 pa4
  have pm0 := epm0 _ (hz)
  have pm1 := epm1 _ (hz)
  have pm2 := epm2 _ (hz)
  have pm3 := epm3 _ (hz)
  have pm4 := epm4 _ (hz)
  have pa0 := epa0 _ (hz)
  have pa1 := epa1 _ (hz)
  have pa2 := epa2 _ (hz)
  have pa3 := epa3 _ (hz)
  have pa4 := epa4 _ (hz)
  have pb0 := epb0 _ (hz)
  have pb1 := epb1 _ (hz)
  have pb2 := epb2 _ (hz)
  have pb3 := epb3 _ (hz)
  have pb4 := epb4 _ (hz)
  go_wp2_with fail
  refine (KR.out _).mono ?_
  rintro e w7 ⟨rfl, hy⟩
  obtain ⟨W7, hW7⟩ : ∃ W7, W7 = w7.alloc (.cells #[.int .i64 G, .int .i64 Q] 49) := ⟨_, rfl⟩
  have X7 : Ext W2 W7 := hW7 ▸ (hz.trans hy).alloc _
  have P7 := Lib.hid (show Kit.Box W7 w7.heap.size [.int .i64 G, .int .i64 Q] from hW7 ▸ Kit.Box.new2 rfl)
  go_upto_region 13 with fail
  rw [← hW7]
  clear hW7 hy hz
  generalize w7.heap.size = h7 at *
  clear pm0 pm1 pm2 pm3 pm4 pa0 pa1 pa2 pa3 pa4 pb0 pb1 pb2 pb3 pb4
  clear epm0 epm1 epm2 epm3 epm4 epa0 epa1 epa2 epa3 epa4 epb0 epb1 epb2 epb3 epb4
  obtain ⟨⟨c0, c1⟩, _⟩ := P7.out.two
  have hsplit : (¬ Q = 2) ∨ (Q = 2 ∧ G = 3 - K) := by
    rcases HGV.out with h | h
    · exact .inl h
    · by_cases e : Q = 2
      · exact .inr ⟨e, h⟩
      · exact .inl e
  have hside : ((Q == 2) = false ∧ (Q != 2) = true) ∨ (Q = 2 ∧ G = 3 - K) := hsplit.imp (fun h => ⟨beq_eq_false_iff_ne.2 h, bne_iff_ne.2 h⟩) id
  clear hsplit
  rcases HKK.out with ⟨rfl, rfl⟩ | ⟨rfl, rfl⟩ | ⟨rfl, rfl⟩ <;> rcases hside with ⟨hq, hq2⟩ | ⟨rfl, rfl⟩
  all_goals
    go_wp2
    go_ret
    exact ⟨rfl, XW.out.trans X7⟩

end Go.Proofs.Ytcangdcakgcpaaa.fnInside
