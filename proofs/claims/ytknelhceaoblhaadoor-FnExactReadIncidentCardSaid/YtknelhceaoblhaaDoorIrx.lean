/- Reading the text of an incident (chapter 12): impl. -/
import Derived.Test.YtknelhceaoblhaaDoorItx2
import Derived.Test.YtknelhceaoblhaaDoorRtx2
import Derived.Test.YtknelhceaoblhaaDoorRead
import Derived.Test.YtknelhceaoblhaaDoorCrp
import Derived.Deep.DeepCutAuto
namespace Go.Proofs.YtknelhceaoblhaaDoor.Irx
open Go.ChangeShapes Go.WideShapes Go.ChangeAt Go.RowKit Go.PlainAid
open Go.Proofs.YtknelhceaoblhaaDoor.Num Go.Proofs.YtknelhceaoblhaaDoor.Kit Go.Proofs.YtknelhceaoblhaaDoor.Txt Go.Proofs.YtknelhceaoblhaaDoor.TxtMath Go.Proofs.YtknelhceaoblhaaDoor.RulT Go.Proofs.YtknelhceaoblhaaDoor.IncT Go.Proofs.YtknelhceaoblhaaDoor.Itx Go.Proofs.YtknelhceaoblhaaDoor.Crs
open Go.Proofs.YtknelhceaoblhaaDoor.Iv (I5 V5 L5)
open Go.Proofs.YtknelhceaoblhaaDoor.Rtx (reasonNamed_any)
set_option linter.unusedVariables false
set_option linter.unusedSimpArgs false

theorem pk_yes {l : List UInt8} (h : cO 32 l = true) : pcK l = cA 32 l ∧ pcW l = cB 32 l := ⟨if_pos h, if_pos h⟩
theorem pk_no {l : List UInt8} (h : cO 32 l = false) : pcK l = [45, 49] ∧ pcW l = l := by
  unfold pcK pcW; rw [h]; exact ⟨rfl, rfl⟩
theorem io_done {n : Nat} {w F : World} {tmps : Array Value} {a b c d e : Int} (B : Box F n [.int .i64 a, .int .i64 b, .int .i64 c, .int .i64 d, .int .i64 e]) (hC : Ext w F) (h2 : tmps[2]? = some (.pointer (some ⟨n, 0, none⟩))) (x : I5) (hx : x = ⟨a, b, c, d, e⟩) :
    bodyPost Tryd.prog Tryd.f21 (fun e w' => e = .returned x.v ∧ Ext w w') Exit.ret ⟨tmps, []⟩ F := by
  subst hx
  obtain ⟨⟨g0, g1, g2, g3, g4⟩, _⟩ := B.five
  exact bodyPost_ret (v := V5 a b c d e) (by simp [results, Tryd.results21, go_sem, h2, g0, g1, g2, g3, g4]) rfl ⟨rfl, hC⟩
theorem ri_done {n : Nat} {w F : World} {tmps : Array Value} {a b c d e : Int} {k : Bool} (B : Box F n [.int .i64 a, .int .i64 b, .int .i64 c, .int .i64 d, .int .i64 e]) (hC : Ext w F) (h2 : tmps[2]? = some (.pointer (some ⟨n, 0, none⟩))) (h3 : tmps[3]? = some (.bool k)) (x : I5) (C : Bool) (hx : x = ⟨a, b, c, d, e⟩) (hK : C = k) :
    bodyPost Tryd.prog Tryd.f9 (fun e w' => e = .returned (.tuple #[x.v, .bool C]) ∧ Ext w w') Exit.ret ⟨tmps, []⟩ F := by
  subst hx; subst hK
  obtain ⟨⟨g0, g1, g2, g3, g4⟩, _⟩ := B.five
  exact bodyPost_ret (v := .tuple #[V5 a b c d e, .bool C]) (by simp [results, Tryd.results9, go_sem, h2, h3, g0, g1, g2, g3, g4]) rfl ⟨rfl, hC⟩
theorem iz_eq : iz = ⟨0, 0, 0, 0, 0⟩ := rfl
theorem i5_eta (x : I5) : x = ⟨x.t, x.f, x.s, x.k, x.r⟩ := rfl

set_option maxHeartbeats 4000000 in
theorem incidentOf_any (l : List UInt8) (w : World) (hE : Env w) (hl : l.length ≤ 2000000) :
    Calls Tryd.prog 21 #[St l] w fun e w' => e = .returned (irI l).v ∧ Ext w w' := by
  obtain ⟨W0, hW0⟩ : ∃ W0, W0 = w.alloc (.cells #[.int .i64 0, .int .i64 0, .int .i64 0, .int .i64 0, .int .i64 0] 25) := ⟨_, rfl⟩
  have hX : Ext w W0 := hW0 ▸ (Ext.refl w).alloc _
  have B0 := Lib.hid (show Box W0 w.heap.size [.int .i64 0, .int .i64 0, .int .i64 0, .int .i64 0, .int .i64 0] from hW0 ▸ Box.new5 rfl)
  have HE := Lib.hid (hE.ext hX)
  have HI := Lib.hid (show irI l = ⟨(rdI (cA 32 l)).1, pI (cA 32 (cB 32 l)), pI (cA 32 (cB 32 (cB 32 l))), pI (pcK (cB 32 (cB 32 (cB 32 l)))), ixN (pcW (cB 32 (cB 32 (cB 32 l))))⟩ from rfl)
  obtain ⟨a0, b0⟩ := cut_len 32 l
  obtain ⟨a1, b1⟩ := cut_len 32 (cB 32 l)
  obtain ⟨a2, b2⟩ := cut_len 32 (cB 32 (cB 32 l))
  obtain ⟨a3, b3⟩ := cut_len 32 (cB 32 (cB 32 (cB 32 l)))
  clear hE
  go_enter Tryd.func21, Tryd.ntmps21
  go_wp2_with fail
  rw [← hW0]
  clear hW0
  refine (cut_any l 32 _ HE.out (by omega)).mono ?_
  rintro e w1 ⟨rfl, hx⟩
  replace HE := Lib.hid (HE.out.ext hx)
  generalize hB : cB 32 l = m1 at *
  generalize cA 32 l = T at *
  generalize cO 32 l = o1 at *
  go_wp2_with fail
  refine (cut_any m1 32 _ HE.out (by omega)).mono ?_
  rintro e w2 ⟨rfl, hy⟩
  replace HE := Lib.hid (HE.out.ext hy)
  replace hx := hx.trans hy
  clear hy hB
  generalize hB : cB 32 m1 = m2 at *
  generalize cA 32 m1 = F at *
  generalize cO 32 m1 = o2 at *
  go_wp2_with fail
  refine (cut_any m2 32 _ HE.out (by omega)).mono ?_
  rintro e w3 ⟨rfl, hy⟩
  replace HE := Lib.hid (HE.out.ext hy)
  replace hx := hx.trans hy
  clear hy hB
  generalize hB : cB 32 m2 = m3 at *
  generalize cA 32 m2 = S at *
  generalize cO 32 m2 = o3 at *
  go_wp2_with fail
  refine (cut_any m3 32 _ HE.out (by omega)).mono ?_
  rintro e w4 ⟨rfl, hy⟩
  replace HE := Lib.hid (HE.out.ext hy)
  replace hx := hx.trans hy
  clear hy hB
  cases hk : cO 32 m3
  · obtain ⟨p1, p2⟩ := pk_no hk
    rw [p1, p2] at HI
    generalize cA 32 m3 = D at *
    generalize cB 32 m3 = R at *
    clear hk p1 p2
    go_wp2_with fail
    refine (decimalM1 _ HE.out.1).mono ?_
    rintro e w5 ⟨rfl, hy⟩
    replace HE := Lib.hid (HE.out.ext hy)
    replace hx := hx.trans hy
    clear hy
    have HK : ([45, 49] : List UInt8).length ≤ 2000000 := by decide
    generalize ([45, 49] : List UInt8) = K at *
    go_wp2_with fail
    refine (readTime_impl T _ HE.out (by omega)).mono ?_
    rintro e w6 ⟨rfl, hy⟩
    replace HE := Lib.hid (HE.out.ext hy)
    replace hx := hx.trans hy
    clear hy
    go_wp2_with fail
    refine (numberOf_any F _ HE.out (by omega)).mono ?_
    rintro e w7 ⟨rfl, hy⟩
    replace HE := Lib.hid (HE.out.ext hy)
    replace hx := hx.trans hy
    clear hy
    go_wp2_with fail
    refine (numberOf_any S _ HE.out (by omega)).mono ?_
    rintro e w8 ⟨rfl, hy⟩
    replace HE := Lib.hid (HE.out.ext hy)
    replace hx := hx.trans hy
    clear hy
    go_wp2_with fail
    refine (numberOf_any K _ HE.out HK).mono ?_
    rintro e w9 ⟨rfl, hy⟩
    replace HE := Lib.hid (HE.out.ext hy)
    replace hx := hx.trans hy
    clear hy
    go_wp2_with fail
    refine (reasonNamed_any m3 _).mono ?_
    rintro e wA ⟨rfl, hy⟩
    replace hx := hx.trans hy
    obtain ⟨⟨r0, r1, r2, r3, r4⟩, s0, s1, s2, s3, s4⟩ := (B0.out.ext hx).five
    go_wp2
    exact io_done (B0.out.ext hx).set5 ((((((hX.trans hx).setNew (by simp) _).setNew (by simp) _).setNew (by simp) _).setNew (by simp) _).setNew (by simp) _) rfl _ HI.out
  · obtain ⟨p1, p2⟩ := pk_yes hk
    rw [p1, p2] at HI
    generalize cA 32 m3 = K at *
    generalize cB 32 m3 = R at *
    clear hk p1 p2
    go_wp2_with fail
    refine (readTime_impl T _ HE.out (by omega)).mono ?_
    rintro e w6 ⟨rfl, hy⟩
    replace HE := Lib.hid (HE.out.ext hy)
    replace hx := hx.trans hy
    clear hy
    go_wp2_with fail
    refine (numberOf_any F _ HE.out (by omega)).mono ?_
    rintro e w7 ⟨rfl, hy⟩
    replace HE := Lib.hid (HE.out.ext hy)
    replace hx := hx.trans hy
    clear hy
    go_wp2_with fail
    refine (numberOf_any S _ HE.out (by omega)).mono ?_
    rintro e w8 ⟨rfl, hy⟩
    replace HE := Lib.hid (HE.out.ext hy)
    replace hx := hx.trans hy
    clear hy
    go_wp2_with fail
    refine (numberOf_any K _ HE.out (by omega)).mono ?_
    rintro e w9 ⟨rfl, hy⟩
    replace HE := Lib.hid (HE.out.ext hy)
    replace hx := hx.trans hy
    clear hy
    go_wp2_with fail
    refine (reasonNamed_any R _).mono ?_
    rintro e wA ⟨rfl, hy⟩
    replace hx := hx.trans hy
    obtain ⟨⟨r0, r1, r2, r3, r4⟩, s0, s1, s2, s3, s4⟩ := (B0.out.ext hx).five
    go_wp2
    exact io_done (B0.out.ext hx).set5 ((((((hX.trans hx).setNew (by simp) _).setNew (by simp) _).setNew (by simp) _).setNew (by simp) _).setNew (by simp) _) rfl _ HI.out

set_option maxHeartbeats 2000000 in
theorem readIncident_impl (l : List UInt8) (w : World) (hE : Env w) (hl : l.length ≤ 2000000) :
    Calls Tryd.prog 9 #[St l] w fun e w' => e = .returned (.tuple #[(irX l).v, .bool (irB l)]) ∧ Ext w w' := by
  obtain ⟨W0, hW0⟩ : ∃ W0, W0 = w.alloc (.cells #[.int .i64 0, .int .i64 0, .int .i64 0, .int .i64 0, .int .i64 0] 25) := ⟨_, rfl⟩
  have hX : Ext w W0 := hW0 ▸ (Ext.refl w).alloc _
  have B0 := Lib.hid (show Box W0 w.heap.size [.int .i64 0, .int .i64 0, .int .i64 0, .int .i64 0, .int .i64 0] from hW0 ▸ Box.new5 rfl)
  have HE := Lib.hid (hE.ext hX)
  have HR := Lib.hid (show irO l = if iiB (irI l) = true ∧ itT (irI l) = l then some (irI l) else none from rfl)
  have KI := Lib.hid (fun w (h : Env w) => incidentOf_any l w h hl)
  clear hE
  generalize irI l = x at *
  go_enter Tryd.func9, Tryd.ntmps9
  go_wp2_with fail
  rw [← hW0]
  clear hW0
  refine (KI.out _ HE.out).mono ?_
  rintro e w1 ⟨rfl, hz⟩
  replace HE := Lib.hid (HE.out.ext hz)
  obtain ⟨W4, hW4⟩ : ∃ W4, W4 = w1.alloc (.cells #[.int .i64 x.t, .int .i64 x.f, .int .i64 x.s, .int .i64 x.k, .int .i64 x.r] 25) := ⟨_, rfl⟩
  have h4 : Ext w1 W4 := hW4 ▸ (Ext.refl w1).alloc _
  have B4 := Lib.hid (show Box W4 w1.heap.size [.int .i64 x.t, .int .i64 x.f, .int .i64 x.s, .int .i64 x.k, .int .i64 x.r] from hW4 ▸ Box.new5 rfl)
  replace hz := hz.trans h4
  replace HE := Lib.hid (HE.out.ext h4)
  obtain ⟨⟨k0, k1, k2, k3, k4⟩, _⟩ := B4.out.five
  go_wp2_with fail
  rw [← hW4]
  clear hW4 h4
  refine (incValid_any x _).mono ?_
  rintro e w5 ⟨rfl, hy⟩
  replace HE := Lib.hid (HE.out.ext hy)
  replace B4 := Lib.hid (B4.out.ext hy)
  replace hz := hz.trans hy
  clear hy k0 k1 k2 k3 k4
  cases hv : iiB x
  · have HN := Lib.hid (ix_no (HR.out.trans (if_neg (fun h => by rw [hv] at h; cases h.1))))
    obtain ⟨⟨r0, r1, r2, r3, r4⟩, s0, s1, s2, s3, s4⟩ := (B0.out.ext hz).five
    go_wp2
    exact ri_done (B0.out.ext hz).set5 ((((((hX.trans hz).setNew (by simp) _).setNew (by simp) _).setNew (by simp) _).setNew (by simp) _).setNew (by simp) _) rfl rfl _ _ HN.out.1 HN.out.2
  obtain ⟨⟨k0, k1, k2, k3, k4⟩, _⟩ := B4.out.five
  by_cases ht : itT x = l
  · have HY := Lib.hid (ix_yes (HR.out.trans (if_pos ⟨hv, ht⟩)))
    have HT := Lib.hid ht
    clear ht
    go_wp2_with fail
    refine (incText_impl x _ HE.out.1).mono ?_
    rintro e w6 ⟨rfl, hy⟩
    replace B4 := Lib.hid (B4.out.ext hy)
    replace hz := hz.trans hy
    clear hy k0 k1 k2 k3 k4
    rw [HT.out]
    obtain ⟨⟨k0, k1, k2, k3, k4⟩, _⟩ := B4.out.five
    obtain ⟨⟨r0, r1, r2, r3, r4⟩, s0, s1, s2, s3, s4⟩ := (B0.out.ext hz).five
    go_wp2
    exact ri_done (B0.out.ext hz).set5 ((((((hX.trans hz).setNew (by simp) _).setNew (by simp) _).setNew (by simp) _).setNew (by simp) _).setNew (by simp) _) rfl rfl _ _ (HY.out.1.trans (i5_eta x)) HY.out.2
  · have HN := Lib.hid (ix_no (HR.out.trans (if_neg (fun h => ht h.2))))
    have hne : (itT x == l) = false := beq_eq_false_iff_ne.2 ht
    clear ht
    go_wp2_with fail
    refine (incText_impl x _ HE.out.1).mono ?_
    rintro e w6 ⟨rfl, hy⟩
    replace hz := hz.trans hy
    clear hy k0 k1 k2 k3 k4
    generalize itT x = T at *
    obtain ⟨⟨r0, r1, r2, r3, r4⟩, s0, s1, s2, s3, s4⟩ := (B0.out.ext hz).five
    go_wp2
    exact ri_done (B0.out.ext hz).set5 ((((((hX.trans hz).setNew (by simp) _).setNew (by simp) _).setNew (by simp) _).setNew (by simp) _).setNew (by simp) _) rfl rfl _ _ HN.out.1 HN.out.2

end Go.Proofs.YtknelhceaoblhaaDoor.Irx
