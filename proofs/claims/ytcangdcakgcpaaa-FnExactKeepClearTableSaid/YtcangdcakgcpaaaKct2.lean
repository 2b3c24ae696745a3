/- KeepClearTable of the program (chapter 10). -/
import Derived.Test.YtcangdcakgcpaaaKct
namespace Go.Proofs.Ytcangdcakgcpaaa.Kct
open Go.ChangeShapes Go.WideShapes Go.ChangeAt Go.RowKit Go.PlainAid
open Go.Proofs.Ytcangdcakgcpaaa.Num Go.Proofs.Ytcangdcakgcpaaa.Kit Go.Proofs.Ytcangdcakgcpaaa.Pts Go.Proofs.Ytcangdcakgcpaaa.Seg Go.Proofs.Ytcangdcakgcpaaa.Wnd Go.Proofs.Ytcangdcakgcpaaa.Hul Go.Proofs.Ytcangdcakgcpaaa.Rul Go.Proofs.Ytcangdcakgcpaaa.Bts Go.Proofs.Ytcangdcakgcpaaa.Rwz Go.Proofs.Ytcangdcakgcpaaa.Rri
open Go.Proofs.Ytcangdcakgcpaaa.Mnv (row_ext row_mono row_grown)
set_option linter.unusedVariables false
set_option linter.unusedSimpArgs false

theorem badHull_any (p : B6) (w : World) : Calls Try.prog 52 #[p.v] w fun e w' => e = .returned (.bool (!hlB p.a p.b p.c p.d p.n)) ∧ Ext w w' := by
  obtain ⟨a, b, c, d, n, s⟩ := p
  obtain ⟨W0, hW0⟩ : ∃ W0, W0 = w.alloc (.cells #[.int .i64 a, .int .i64 b, .int .i64 c, .int .i64 d, .int .i64 n, .bool s] 41) := ⟨_, rfl⟩
  have hX : Ext w W0 := hW0 ▸ ((Ext.refl w).alloc _)
  have hs0 : W0.heap.size = w.heap.size + 1 := by rw [hW0]; simp
  have e00 : ∀ w', (Ext W0) w' → w'.cell? ⟨w.heap.size, 0, none⟩ = some (.int .i64 a) := fun w' h => h.cellOf (by rw [hW0]; exact boxed 0 rfl (by simp))
  have e01 : ∀ w', (Ext W0) w' → w'.cell? ⟨w.heap.size, 1, none⟩ = some (.int .i64 b) := fun w' h => h.cellOf (by rw [hW0]; exact boxed 1 rfl (by simp))
  have e02 : ∀ w', (Ext W0) w' → w'.cell? ⟨w.heap.size, 2, none⟩ = some (.int .i64 c) := fun w' h => h.cellOf (by rw [hW0]; exact boxed 2 rfl (by simp))
  have e03 : ∀ w', (Ext W0) w' → w'.cell? ⟨w.heap.size, 3, none⟩ = some (.int .i64 d) := fun w' h => h.cellOf (by rw [hW0]; exact boxed 3 rfl (by simp))
  have e04 : ∀ w', (Ext W0) w' → w'.cell? ⟨w.heap.size, 4, none⟩ = some (.int .i64 n) := fun w' h => h.cellOf (by rw [hW0]; exact boxed 4 rfl (by simp))
  have e05 : ∀ w', (Ext W0) w' → w'.cell? ⟨w.heap.size, 5, none⟩ = some (.bool s) := fun w' h => h.cellOf (by rw [hW0]; exact boxed 5 rfl (by simp))
  go_enter Try.func52, Try.ntmps52
  go_wp2_with fail
  rw [← hW0]
  clear hW0
  refine (hullValid_any _ _ _ _ _ _).mono ?_
  rintro e w1 ⟨rfl, hz⟩
  go_wp2
  go_ret
  exact ⟨rfl, hX.trans hz⟩

def RelIb (w : World) (bs : List B6) (i : Value) (wr : World) : Prop := ∃ k : Nat, i = .int .i64 k ∧ k ≤ bs.length ∧ (∀ j, j < k → hlB (bx bs j).a (bx bs j).b (bx bs j).c (bx bs j).d (bx bs j).n = true) ∧ Ext w wr
set_option maxHeartbeats 1000000 in
theorem indexBoat_any (a : Option Addr) (cap : Nat) (bs : List B6) (w : World) (hf : Bts w a bs) :
    Calls Try.prog 80 #[.slice a bs.length cap, .func (.func 52) #[] #[]] w fun e w' => ∃ r : Int, e = .returned (.int .i64 r) ∧ ((btB bs = true ∧ r = -1) ∨ (btB bs = false ∧ 0 ≤ r)) ∧ Ext w w' := by
  have hm := hf.1
  unfold maxLen at hm
  have HF := Lib.hid hf
  clear hf
  go_enter Try.func80, Try.ntmps80
  go_wp2
  go_loopw [8] (fun i wr => RelIb w bs i wr) (fun i _ => bs.length - (intOf i).toNat)
  case atStart => exact ⟨0, rfl, Nat.zero_le _, fun j hj => absurd hj (by omega), Ext.refl _⟩
  case round =>
    obtain ⟨j, rfl, hj, hd, hx⟩ := hrel
    have HD := Lib.hid hd
    have HX := Lib.hid hx
    clear hd hx
    by_cases hj1 : j < bs.length
    · obtain ⟨b, off, rfl, hb⟩ := HF.out.row (by omega)
      obtain ⟨c0, c1, c2, c3, c4, c5⟩ := ((hb j hj1).ext HX.out).six
      have i0 : (0 : Int) ≤ (j : Int) := by omega
      have i1 : (j : Int) < (bs.length : Int) := by omega
      have T7 : IntKind.i64.wrap ((j : Int) + 1) = (j : Int) + 1 := IntWalk.i64_in _ (by omega)
      have hc := badHull_any (bx bs j) wr
      clear hb
      cases h : hlB (bx bs j).a (bx bs j).b (bx bs j).c (bx bs j).d (bx bs j).n
      · have H := Lib.hid (bt_no hj1 h)
        rw [h] at hc
        clear h
        generalize bx bs j = p at *
        go_wp2_with (go_at_call 52; refine hc.mono ?_; rintro e w1 ⟨rfl, hy⟩)
        go_ret
        exact ⟨_, rfl, .inr ⟨H.out, by omega⟩, HX.out.trans hy⟩
      · have H := Lib.hid h
        rw [h] at hc
        clear h
        obtain ⟨p, hp⟩ : ∃ p, p = bx bs j := ⟨_, rfl⟩
        rw [← hp] at hc c0 c1 c2 c3 c4 c5
        clear hp
        go_wp2_with (go_at_call 52; refine hc.mono ?_; rintro e w1 ⟨rfl, hy⟩)
        have HY := Lib.hid (HX.out.trans hy)
        clear hy
        go_roundw
        case rel => exact ⟨j + 1, by go_num, by omega, fun x hx => by rcases Nat.lt_or_ge x j with g | g; exact HD.out x g; exact (show x = j by omega) ▸ H.out, HY.out⟩
        case measure => simp [intOf]; omega
    · obtain rfl : j = bs.length := by omega
      have H := Lib.hid (bt_all HD.out)
      go_wp2
      go_ret
      exact ⟨_, rfl, .inl ⟨H.out, rfl⟩, HX.out⟩

theorem containsBoat_any (a : Option Addr) (cap : Nat) (bs : List B6) (w : World) (hf : Bts w a bs) :
    Calls Try.prog 51 #[.slice a bs.length cap, .func (.func 52) #[] #[]] w fun e w' => e = .returned (.bool (!btB bs)) ∧ Ext w w' := by
  have KI := Lib.hid (indexBoat_any a cap bs w hf)
  clear hf
  obtain ⟨B, hB⟩ : ∃ B, B = btB bs := ⟨_, rfl⟩
  rw [← hB] at KI ⊢
  clear hB
  cases B
  · go_enter Try.func51, Try.ntmps51
    go_wp2_with fail
    refine KI.out.mono ?_
    rintro e w1 ⟨r, rfl, hr, hx⟩
    have hr2 : 0 ≤ r := by rcases hr with ⟨h, _⟩ | ⟨_, h⟩; cases h; exact h
    have q : decide (r ≥ 0) = true := decide_eq_true (by omega)
    clear hr
    go_wp2
    go_ret
    exact ⟨rfl, hx⟩
  · go_enter Try.func51, Try.ntmps51
    go_wp2_with fail
    refine KI.out.mono ?_
    rintro e w1 ⟨r, rfl, hr, hx⟩
    obtain rfl : r = -1 := by rcases hr with ⟨_, h⟩ | ⟨h, _⟩; exact h; cases h
    clear hr
    go_wp2
    go_ret
    exact ⟨rfl, hx⟩

def RelKt (W : World) (x y : Int) (bs : List B6) (o i : Value) (wr : World) : Prop := ∃ (k : Nat) (vs : List Value), i = .int .i64 k ∧ k ≤ bs.length ∧ OwnG wr W.heap.size o (ktN x y bs k) vs ∧ Ext W wr
theorem ret_vi {v : Value} {a b : Int} (h : b = a) : Ending.returned (.tuple #[v, .int .i64 a]) = .returned (.tuple #[v, .int .i64 b]) := by rw [h]

set_option maxRecDepth 100000 in
set_option maxHeartbeats 8000000 in
theorem table_impl (x y : Int) (a : Option Addr) (cap : Nat) (bs : List B6) (w : World) (hf : Bts w a bs) :
    Calls Try.prog 14 #[Pt x y, .slice a bs.length cap] w fun e w' => ∃ v vs, e = .returned (.tuple #[v, .int .i64 (kcC x y bs)]) ∧ OwnG w' w.heap.size v (kcT x y bs) vs ∧ Ext w w' := by
  have hm := hf.1
  unfold maxLen at hm
  have HF := Lib.hid hf
  clear hf
  obtain ⟨W0, hW0⟩ : ∃ W0, W0 = w.alloc (.cells #[.int .i64 x, .int .i64 y] 25) := ⟨_, rfl⟩
  have hX : Ext w W0 := hW0 ▸ ((Ext.refl w).alloc _)
  have hs0 : W0.heap.size = w.heap.size + 1 := by rw [hW0]; simp
  have e00 : ∀ w', (Ext W0) w' → w'.cell? ⟨w.heap.size, 0, none⟩ = some (.int .i64 x) := fun w' h => h.cellOf (by rw [hW0]; exact boxed 0 rfl (by simp))
  have e01 : ∀ w', (Ext W0) w' → w'.cell? ⟨w.heap.size, 1, none⟩ = some (.int .i64 y) := fun w' h => h.cellOf (by rw [hW0]; exact boxed 1 rfl (by simp))
  by_cases h16 : 16 < bs.length
  · have HE := Lib.hid (kc_many (x := x) (y := y) h16)
    have h17 : (16 : Int) < (bs.length : Int) := by omega
    go_enter Try.func14, Try.ntmps14
    go_wp2
    go_ret2
    rw [← hW0]
    exact ⟨_, [], ret_vi HE.out.1, by rw [HE.out.2]; exact OwnG.nil _ _, hX⟩
  have h17 : ¬ (16 : Int) < (bs.length : Int) := by omega
  have HB := Lib.hid (fun g => kc_bad (x := x) (y := y) h16 g)
  have HY := Lib.hid (fun g => kc_yes (x := x) (y := y) h16 g)
  have H16 := Lib.hid h16
  clear h16
  have f0 := e00 W0 (Ext.refl _); have f1 := e01 W0 (Ext.refl _)
  go_enter Try.func14, Try.ntmps14
  go_wp2_with fail
  rw [← hW0]
  clear hW0 f0 f1
  refine (windValid_any _ _ _).mono ?_
  rintro e w1 ⟨rfl, hz⟩
  replace hz : Ext W0 w1 := hz
  cases h1 : wdB x y
  · have HE := Lib.hid (HB.out (fun g => by rw [h1] at g; cases g.1))
    go_wp2
    go_ret2
    exact ⟨_, [], ret_vi HE.out.1, by rw [HE.out.2]; exact OwnG.nil _ _, hX.trans hz⟩
  go_wp2_with fail
  refine (containsBoat_any _ _ _ _ (HF.out.ext (hX.trans hz))).mono ?_
  rintro e w2 ⟨rfl, hy⟩
  replace hz := hz.trans hy
  clear hy
  cases h2 : btB bs
  · have HE := Lib.hid (HB.out (fun g => by rw [h2] at g; cases g.2))
    go_wp2
    go_ret2
    exact ⟨_, [], ret_vi HE.out.1, by rw [HE.out.2]; exact OwnG.nil _ _, hX.trans hz⟩
  have HE := Lib.hid (HY.out ⟨h1, h2⟩)
  have HP := Lib.hid (fun (b : Nat) (hb : b < bs.length) (w' : World) (h : Ext w2 w') => keptBy_any x y b a cap bs w' (HF.out.ext (hX.trans (hz.trans h))) h1 h2 hb (by have := H16.out; omega))
  clear HB HY h1 h2
  obtain ⟨i0, hin, hz0, hz1, hz2⟩ := info_parts rowInfo
  have sW := Ext.size (hX.trans hz)
  go_wp2
  go_loopw [6, 20] (fun o i wr => RelKt w2 x y bs o i wr) (fun o i _ => bs.length - (intOf i).toNat)
  case atStart => exact ⟨0, [], rfl, Nat.zero_le _, OwnG.nil _ _, Ext.refl _⟩
  case round =>
    obtain ⟨k, vs, rfl, hk, hO, hx⟩ := hrel
    have HO := Lib.hid hO
    have HX := Lib.hid hx
    clear hO hx
    have j0 : (0 : Int) ≤ (k : Int) := by omega
    have T7 : IntKind.i64.wrap ((k : Int) + 1) = (k : Int) + 1 := IntWalk.i64_in _ (by omega)
    by_cases hk1 : k < bs.length
    · have j1 : (k : Int) < (bs.length : Int) := by omega
      have KB := Lib.hid (HP.out k hk1 wr HX.out)
      have EK := Lib.hid (show ktN x y bs (k + 1) = ktN x y bs k ++ [kbN x y bs k bs.length] from rfl)
      have TL := Lib.hid (kt_len x y bs k)
      have KL := Lib.hid (kb_len x y bs k bs.length)
      have g0 := e00 wr (hz.trans HX.out); have g1 := e01 wr (hz.trans HX.out)
      obtain ⟨rs, hrs⟩ : ∃ rs, rs = ktN x y bs k := ⟨_, rfl⟩
      obtain ⟨zs, hzs⟩ : ∃ zs, zs = kbN x y bs k bs.length := ⟨_, rfl⟩
      rw [← hrs] at HO EK TL
      rw [← hzs] at KB EK KL
      clear hrs hzs
      go_wp2_with fail
      refine KB.out.mono ?_
      rintro e w4 ⟨v, rfl, hZ, hy⟩
      obtain ⟨ra, rc, rfl, -⟩ := hZ.zxs (by unfold maxLen; have := KL.out; have := H16.out; omega)
      have RO := Lib.hid HO.out
      have OA := ((HO.out.ext hy).ext ((Ext.refl w4).alloc (.cells #[.slice ra zs.length rc] 43))).row
      have XA := Lib.hid ((HX.out.trans hy).alloc (.cells #[.slice ra zs.length rc] 43))
      have CC := Lib.hid (lit1 (w := w4) (n := w4.heap.size) (u := .slice ra zs.length rc) (t := 43) rfl)
      have P1 := Lib.hid (oneS ra zs.length rc)
      rw [TL.out] at OA
      have P3 := Lib.hid (show k + 1 ≤ maxLen by unfold maxLen; have := H16.out; omega)
      have P4 := Lib.hid (show (k + 1) * 24 ≤ 140737488355328 by have := H16.out; omega)
      have zA := Lib.hid (Ext.size XA.out)
      have QZ := Lib.hid (OwnZ.ext hZ ((Ext.refl w4).alloc (.cells #[.slice ra zs.length rc] 43)))
      have QX := Lib.hid (hy.trans ((Ext.refl w4).alloc (.cells #[.slice ra zs.length rc] 43)))
      have QW := Lib.hid (Ext.size HX.out)
      clear hZ hy g0 g1
      go_wp2_with (at_builtin; refine wpList_append_own_at _ rfl _ _ 29 rfl w2.heap.size 43 i0 (.slice none 0 0) 1 24 Try.underlying29 hin hz0 hz1 hz2 rfl (by decide) _ k _ rfl OA ⟨w4.heap.size, 0, none⟩ 1 1 [.slice ra zs.length rc] rfl rfl CC.out P1.out P3.out P4.out zA.out ?_; intro v1 w5 hown hgrow hnil hat; have R5 := Lib.hid (OwnG.push RO.out QX.out QZ.out (Nat.le_refl _) QW.out (by rw [TL.out]; exact hown) hgrow hat); have X5 := Lib.hid (row_grown (w0 := w2) OA hgrow (Nat.le_refl _) XA.out); clear hown hgrow hnil hat OA)
      go_roundw
      case rel => exact ⟨k + 1, vs ++ [.slice ra zs.length rc], by go_num, by omega, by rw [EK.out]; exact R5.out, X5.out⟩
      case measure => simp [intOf]; omega
    · obtain rfl : k = bs.length := by omega
      go_wp2
      go_ret2
      exact ⟨_, vs, ret_vi HE.out.1, by rw [HE.out.2]; exact HO.out.mono sW, hX.trans (hz.trans HX.out)⟩

end Go.Proofs.Ytcangdcakgcpaaa.Kct
