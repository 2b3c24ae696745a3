/- KeepClearTable of the reference (chapter 10). -/
import Derived.Test.YtcangdcakgcpaaaKct2
import Derived.Test.YtcangdcakgcpaaaRul4
namespace Go.Proofs.Ytcangdcakgcpaaa.Kct
open Go.ChangeShapes Go.WideShapes Go.ChangeAt Go.RowKit Go.PlainAid
open Go.Proofs.Ytcangdcakgcpaaa.Num Go.Proofs.Ytcangdcakgcpaaa.Kit Go.Proofs.Ytcangdcakgcpaaa.Pts Go.Proofs.Ytcangdcakgcpaaa.Seg Go.Proofs.Ytcangdcakgcpaaa.Wnd Go.Proofs.Ytcangdcakgcpaaa.Hul Go.Proofs.Ytcangdcakgcpaaa.Rul Go.Proofs.Ytcangdcakgcpaaa.Bts Go.Proofs.Ytcangdcakgcpaaa.Rwz Go.Proofs.Ytcangdcakgcpaaa.Rri
open Go.Proofs.Ytcangdcakgcpaaa.Mnv (row_ext row_mono row_grown)
set_option linter.unusedVariables false
set_option linter.unusedSimpArgs false

theorem lit_own (e : TypeId) (w : World) : (w.alloc (.cells #[] e)).ownsRow w.heap.size e 1 (.slice (some ⟨w.heap.size, 0, none⟩) 0 0) 0 [] := World.ownsRow_lit (base := w.heap.size) (e := e) (size := 1) w #[] 0 (Nat.le_refl _) (by unfold maxLen; omega) rfl
theorem OwnG.lit (w : World) : OwnG (w.alloc (.cells #[] 43)) w.heap.size (.slice (some ⟨w.heap.size, 0, none⟩) 0 0) [] [] :=
  ⟨rfl, lit_own _ w, fun i hi => absurd hi (by simp), fun i j g _ hj => absurd hj (by simp), fun i g hi => absurd hi (by simp)⟩
theorem OwnZ.lit (w : World) : OwnZ (w.alloc (.cells #[] 2)) w.heap.size (.slice (some ⟨w.heap.size, 0, none⟩) 0 0) [] := lit_own _ w

/-- The loop that looks for a hull that is not valid. -/
def RelSv (W : World) (bs : List B6) (i : Value) (wr : World) : Prop := ∃ k : Nat, i = .int .i64 k ∧ k ≤ bs.length ∧ (∀ j, j < k → hlB (bx bs j).a (bx bs j).b (bx bs j).c (bx bs j).d (bx bs j).n = true) ∧ Ext W wr
/-- The outer loop, the inner loop. -/
def RelSo (W : World) (base : Nat) (x y : Int) (bs : List B6) (o i : Value) (wr : World) : Prop := ∃ (k : Nat) (vs : List Value), i = .int .i64 k ∧ k ≤ bs.length ∧ OwnG wr base o (ktN x y bs k) vs ∧ Ext W wr
def RelSi (V : World) (base : Nat) (x y : Int) (bs : List B6) (b : Nat) (o i : Value) (wr : World) : Prop := ∃ k : Nat, i = .int .i64 k ∧ k ≤ bs.length ∧ OwnZ wr base o (kbN x y bs b k) ∧ Ext V wr

set_option maxRecDepth 100000 in
set_option maxHeartbeats 16000000 in
theorem table_spec (x y : Int) (a : Option Addr) (cap : Nat) (bs : List B6) (w : World) (hf : Bts w a bs) :
    Calls Try.prog 15 #[Pt x y, .slice a bs.length cap] w fun e w' => ∃ v vs, e = .returned (.tuple #[v, .int .i64 (kcC x y bs)]) ∧ OwnG w' w.heap.size v (kcT x y bs) vs ∧ Ext w w' := by
  have hm := hf.1
  unfold maxLen at hm
  have HF := Lib.hid hf
  clear hf
  obtain ⟨W0, hW0⟩ : ∃ W0, W0 = w.alloc (.cells #[.int .i64 x, .int .i64 y] 25) := ⟨_, rfl⟩
  have hX : Ext w W0 := hW0 ▸ ((Ext.refl w).alloc _)
  have hs0 : W0.heap.size = w.heap.size + 1 := by rw [hW0]; simp
  have e00 : ∀ w', (Ext W0) w' → w'.cell? ⟨w.heap.size, 0, none⟩ = some (.int .i64 x) := fun w' h => h.cellOf (by rw [hW0]; exact boxed 0 rfl (by simp))
  have e01 : ∀ w', (Ext W0) w' → w'.cell? ⟨w.heap.size, 1, none⟩ = some (.int .i64 y) := fun w' h => h.cellOf (by rw [hW0]; exact boxed 1 rfl (by simp))
  obtain ⟨W1, hW1⟩ : ∃ W1, W1 = W0.alloc (.cells #[] 43) := ⟨_, rfl⟩
  have O0 := Lib.hid (show OwnG W1 W0.heap.size (.slice (some ⟨W0.heap.size, 0, none⟩) 0 0) [] [] from hW1 ▸ OwnG.lit W0)
  have X1 := Lib.hid (show Ext W0 W1 from hW1 ▸ (Ext.refl W0).alloc _)
  rw [hs0] at O0
  have sW : w.heap.size ≤ w.heap.size + 1 := by omega
  by_cases h16 : 16 < bs.length
  · have HE := Lib.hid (kc_many (x := x) (y := y) h16)
    have h17 : (16 : Int) < (bs.length : Int) := by omega
    go_enter Try.func15, Try.ntmps15
    go_wp2
    go_ret2
    rw [← hW0, ← hW1]
    exact ⟨_, [], ret_vi HE.out.1, by rw [HE.out.2]; exact O0.out.mono sW, hX.trans X1.out⟩
  have h17 : ¬ (16 : Int) < (bs.length : Int) := by omega
  have HB := Lib.hid (fun g => kc_bad (x := x) (y := y) h16 g)
  have HY := Lib.hid (fun g => kc_yes (x := x) (y := y) h16 g)
  have H16 := Lib.hid h16
  clear h16
  have f0 := e00 W1 X1.out; have f1 := e01 W1 X1.out
  go_enter Try.func15, Try.ntmps15
  go_wp2_with fail
  rw [← hW0, ← hW1]
  clear hW1 hW0 f0 f1
  refine (isWind_spec _ _ _).mono ?_
  rintro e w1 ⟨rfl, hz⟩
  have O1 := Lib.hid (O0.out.ext hz)
  replace hz := X1.out.trans hz
  clear O0 X1
  cases h1 : wdB x y
  · have HE := Lib.hid (HB.out (fun g => by rw [h1] at g; cases g.1))
    go_wp2
    go_ret2
    exact ⟨_, [], ret_vi HE.out.1, by rw [HE.out.2]; exact O1.out.mono sW, hX.trans hz⟩
  go_wp2
  go_loopw [7] (fun i wr => RelSv w1 bs i wr) (fun i _ => bs.length - (intOf i).toNat)
  case atStart => exact ⟨0, rfl, Nat.zero_le _, fun j hj => absurd hj (by omega), Ext.refl _⟩
  case round =>
    obtain ⟨j, rfl, hj, hd, hx⟩ := hrel
    have HD := Lib.hid hd
    have HX := Lib.hid (hz.trans hx)
    have O2 := Lib.hid (O1.out.ext hx)
    clear hd
    have i0 : (0 : Int) ≤ (j : Int) := by omega
    have T7 : IntKind.i64.wrap ((j : Int) + 1) = (j : Int) + 1 := IntWalk.i64_in _ (by omega)
    by_cases hj1 : j < bs.length
    · obtain ⟨b, off, rfl, hb⟩ := HF.out.row (by omega)
      obtain ⟨c0, c1, c2, c3, c4, c5⟩ := ((hb j hj1).ext (hX.trans HX.out)).six
      have i1 : (j : Int) < (bs.length : Int) := by omega
      clear hb
      cases h : hlB (bx bs j).a (bx bs j).b (bx bs j).c (bx bs j).d (bx bs j).n
      · have HE := Lib.hid (HB.out (fun g => by rw [bt_no hj1 h] at g; cases g.2))
        have hc := Lib.hid (fun w => isHull_spec (bx bs j).a (bx bs j).b (bx bs j).c (bx bs j).d (bx bs j).n w)
        rw [h] at hc
        clear h
        generalize bx bs j = p at *
        go_wp2_with fail
        refine (hc.out _).mono ?_
        rintro e w2 ⟨rfl, hy⟩
        go_wp2
        go_ret2
        exact ⟨_, [], ret_vi HE.out.1, by rw [HE.out.2]; exact (O2.out.ext hy).mono sW, hX.trans (HX.out.trans hy)⟩
      · have H := Lib.hid h
        have hc := Lib.hid (fun w => isHull_spec (bx bs j).a (bx bs j).b (bx bs j).c (bx bs j).d (bx bs j).n w)
        rw [h] at hc
        clear h
        obtain ⟨p, hp⟩ : ∃ p, p = bx bs j := ⟨_, rfl⟩
        rw [← hp] at hc c0 c1 c2 c3 c4 c5
        clear hp
        have HX0 := Lib.hid hx
        go_wp2_with fail
        refine (hc.out _).mono ?_
        rintro e w2 ⟨rfl, hy⟩
        have HY2 := Lib.hid (HX0.out.trans hy)
        clear hy hx c0 c1 c2 c3 c4 c5
        go_wp2
        go_roundw
        case rel => exact ⟨j + 1, by go_num, by omega, fun x hx => by rcases Nat.lt_or_ge x j with g | g; exact HD.out x g; exact (show x = j by omega) ▸ H.out, HY2.out⟩
        case measure => simp [intOf]; omega
    · obtain rfl : j = bs.length := by omega
      have h2 := bt_all HD.out
      have HE := Lib.hid (HY.out ⟨h1, h2⟩)
      have HP := Lib.hid (fun (b k : Nat) (hb : b < bs.length) (hk : k < bs.length) w => rule_spec x y (bx bs b).a (bx bs b).b (bx bs b).c (bx bs b).d (bx bs b).n (bx bs b).s (bx bs k).a (bx bs k).b (bx bs k).c (bx bs k).d (bx bs k).n (bx bs k).s w h1 (bt_yes h2 hb) (bt_yes h2 hk))
      have HQ := Lib.hid (fun (b k : Nat) => show rkB x y (bx bs b) (bx bs k) = ruK x y (bx bs b).a (bx bs b).b (bx bs b).c (bx bs b).d (bx bs b).n (bx bs b).s (bx bs k).a (bx bs k).b (bx bs k).c (bx bs k).d (bx bs k).n (bx bs k).s from rfl)
      have HX3 := Lib.hid HX.out
      clear HB HY h1 h2 HD hx HX i0 T7 hj hj1 hz
      obtain ⟨i0, hin, hz0, hz1, hz2⟩ := info_parts rowInfo
      obtain ⟨k0, kin, kz0, kz1, kz2⟩ := info_parts intInfo
      go_wp2
      go_loopw [6, 8] (fun o i wr => RelSo W0 (w.heap.size + 1) x y bs o i wr) (fun o i _ => bs.length - (intOf i).toNat)
      case atStart => exact ⟨0, [], rfl, Nat.zero_le _, O2.out, HX3.out⟩
      case round =>
        clear O1 O2 HX3
        obtain ⟨b, vs, rfl, hb, hO, hx⟩ := hrel
        have HO := Lib.hid hO
        have HX := Lib.hid hx
        clear hO hx
        have b0 : (0 : Int) ≤ (b : Int) := by omega
        have T7 : IntKind.i64.wrap ((b : Int) + 1) = (b : Int) + 1 := IntWalk.i64_in _ (by omega)
        by_cases hb1 : b < bs.length
        · have b1 : (b : Int) < (bs.length : Int) := by omega
          obtain ⟨bb, off, rfl, hrow⟩ := HF.out.row (by omega)
          have HR := Lib.hid hrow
          have EK := Lib.hid (show ktN x y bs (b + 1) = ktN x y bs b ++ [kbN x y bs b bs.length] from rfl)
          have TL := Lib.hid (kt_len x y bs b)
          obtain ⟨rs, hrs⟩ : ∃ rs, rs = ktN x y bs b := ⟨_, rfl⟩
          rw [← hrs] at HO EK TL
          clear hrs hrow
          obtain ⟨wo, hwo⟩ : ∃ wo, wo = wr := ⟨_, rfl⟩
          rw [← hwo] at HO HX ⊢
          clear hwo
          go_wp2
          go_loopw [9, 10] (fun o i wi => RelSi wo wo.heap.size x y bs b o i wi) (fun o i _ => bs.length - (intOf i).toNat)
          case atStart => exact ⟨0, rfl, Nat.zero_le _, OwnZ.lit wo, (Ext.refl wo).alloc _⟩
          case round =>
            obtain ⟨k, rfl, hk, hO, hx⟩ := hrel
            have HZ := Lib.hid hO
            have HXi := Lib.hid hx
            clear hO hx
            rename World => wr
            have j0 : (0 : Int) ≤ (k : Int) := by omega
            have T8 : IntKind.i64.wrap ((k : Int) + 1) = (k : Int) + 1 := IntWalk.i64_in _ (by omega)
            by_cases hk1 : k < bs.length
            · have j1 : (k : Int) < (bs.length : Int) := by omega
              have p0 := ((HR.out b hb1).ext hX).ext (HX.out.trans HXi.out)
              have q0 := ((HR.out k hk1).ext hX).ext (HX.out.trans HXi.out)
              have PR := Lib.hid (HP.out b k hb1 hk1)
              have HE2 := Lib.hid (HQ.out b k)
              have HYk := Lib.hid (fun h g => kb_yes (x := x) (y := y) (bs := bs) (i := b) (n := k) h g)
              have HNk := Lib.hid (fun g => kb_no (x := x) (y := y) (bs := bs) (i := b) (n := k) g)
              have LN := Lib.hid (kb_len x y bs b k)
              have g0 : ∀ w', Ext wr w' → w'.cell? ⟨w.heap.size, 0, none⟩ = some (.int .i64 x) := fun w' h => e00 w' (HX.out.trans (HXi.out.trans h))
              have g1 : ∀ w', Ext wr w' → w'.cell? ⟨w.heap.size, 1, none⟩ = some (.int .i64 y) := fun w' h => e01 w' (HX.out.trans (HXi.out.trans h))
              have hr := Ext.refl wr
              by_cases hkb : k = b
              · subst hkb
                have HS := Lib.hid (kb_self (x := x) (y := y) (bs := bs) (i := k))
                clear PR HE2 HYk HNk LN p0 q0
                go_wp2_with fail
                refine wp_region_held_drew (S := (fun w' => Ext wr w')) (by kernel_rfl) (by (try dsimp only); first | go_keep | exact (Ext.refl _).drew | exact Res.new2.drew | exact Res.new4.drew | exact ResB.drew (by assumption) | exact ResC.drew (by assumption) | assumption | exact Ext.drew (by assumption) | exact Res.drew (by assumption)) (fun hHeld => ?_)
                refine Ord.K 0 47 ?_
                refine Ord.K 1 48 ?_
                refine Ord.K 2 49 ?_
                refine Ord.K 3 50 ?_
                (first | (refine Ord.s 4 51 ?_ ?_; rfl; (try simp only [Act.put, Ord.a, Ord.b, Ord.c])) | refine Ord.K 4 51 ?_)
                (first | (refine Ord.s 5 52 ?_ ?_; rfl; (try simp only [Act.put, Ord.a, Ord.b, Ord.c])) | refine Ord.K 5 52 ?_)
                (first | (refine Ord.s 6 53 ?_ ?_; rfl; (try simp only [Act.put, Ord.a, Ord.b, Ord.c])) | refine Ord.K 6 53 ?_)
                (first | (refine Ord.s 7 54 ?_ ?_; rfl; (try simp only [Act.put, Ord.a, Ord.b, Ord.c])) | refine Ord.K 7 54 ?_)
                (first | (refine Ord.s 8 55 ?_ ?_; rfl; (try simp only [Act.put, Ord.a, Ord.b, Ord.c])) | refine Ord.K 8 55 ?_)
                (first | (refine Ord.s 9 56 ?_ ?_; rfl; (try simp only [Act.put, Ord.a, Ord.b, Ord.c])) | refine Ord.K 9 56 ?_)
                (first | (refine Ord.s 10 57 ?_ ?_; rfl; (try simp only [Act.put, Ord.a, Ord.b, Ord.c])) | refine Ord.K 10 57 ?_)
                (first | (refine Ord.s 11 58 ?_ ?_; rfl; (try simp only [Act.put, Ord.a, Ord.b, Ord.c])) | refine Ord.K 11 58 ?_)
                (first | (refine Ord.s 12 59 ?_ ?_; rfl; (try simp only [Act.put, Ord.a, Ord.b, Ord.c])) | refine Ord.K 12 59 ?_)
                (first | (refine Ord.s 13 60 ?_ ?_; rfl; (try simp only [Act.put, Ord.a, Ord.b, Ord.c])) | (refine wpAnyH_ready (rs := [13]) (by kernel_rfl) (by simp) ?_; refine AllReadyH.cons rfl (fun K hK => ?_) AllReadyH.nil; go_simp; (fail); go_wp2_with fail; (refine hK.out _ _ (by first | assumption | exact Ext.trans (by assumption) hy | exact Res.ext (by assumption) hy | exact ResB.ext (by assumption) hy | exact ResC.ext (by assumption) hy | (go_split_ands; (repeat' apply And.intro) <;> exact Ext.cellOf hy (by assumption))) (fun hHeld => ?_)); clear hK K; (try simp only [Act.put, Ord.a, Ord.b, Ord.c])))
                (first | (refine Ord.s 14 61 ?_ ?_; rfl; (try simp only [Act.put, Ord.a, Ord.b, Ord.c])) | refine Ord.K 14 61 ?_)
                (first | (refine Ord.s 15 62 ?_ ?_; rfl; (try simp only [Act.put, Ord.a, Ord.b, Ord.c])) | refine Ord.K 15 62 ?_)
                refine Ord.K 16 63 ?_
                refine wpAnyH_done (by kernel_rfl) ?_ _
                have HY2 := Lib.hid (show Ext wr wr.drew from (Ext.refl wr).drew)
                go_wp2
                go_roundw
                case rel => exact ⟨k + 1, by go_num, by omega, by rw [HS.out]; exact OwnZ.ext HZ.out HY2.out, HXi.out.trans HY2.out⟩
                case measure => simp [intOf]; omega
              · have hne : ((k : Int) != (b : Int)) = true := by simp; omega
                have hkb2 : ¬ ((k : Int) = (b : Int)) := by omega
                have f0 : ∀ w', Ext wr w' → w'.cell? ⟨bb, off + b * 6, none⟩ = some (.int .i64 (bx bs b).a) := fun w' h => (p0.ext h).six.1
                have f1 : ∀ w', Ext wr w' → w'.cell? ⟨bb, off + b * 6 + 1, none⟩ = some (.int .i64 (bx bs b).b) := fun w' h => (p0.ext h).six.2.1
                have f2 : ∀ w', Ext wr w' → w'.cell? ⟨bb, off + b * 6 + 2, none⟩ = some (.int .i64 (bx bs b).c) := fun w' h => (p0.ext h).six.2.2.1
                have f3 : ∀ w', Ext wr w' → w'.cell? ⟨bb, off + b * 6 + 3, none⟩ = some (.int .i64 (bx bs b).d) := fun w' h => (p0.ext h).six.2.2.2.1
                have f4 : ∀ w', Ext wr w' → w'.cell? ⟨bb, off + b * 6 + 4, none⟩ = some (.int .i64 (bx bs b).n) := fun w' h => (p0.ext h).six.2.2.2.2.1
                have f5 : ∀ w', Ext wr w' → w'.cell? ⟨bb, off + b * 6 + 5, none⟩ = some (.bool (bx bs b).s) := fun w' h => (p0.ext h).six.2.2.2.2.2
                have h0 : ∀ w', Ext wr w' → w'.cell? ⟨bb, off + k * 6, none⟩ = some (.int .i64 (bx bs k).a) := fun w' h => (q0.ext h).six.1
                have h1 : ∀ w', Ext wr w' → w'.cell? ⟨bb, off + k * 6 + 1, none⟩ = some (.int .i64 (bx bs k).b) := fun w' h => (q0.ext h).six.2.1
                have h2 : ∀ w', Ext wr w' → w'.cell? ⟨bb, off + k * 6 + 2, none⟩ = some (.int .i64 (bx bs k).c) := fun w' h => (q0.ext h).six.2.2.1
                have h3 : ∀ w', Ext wr w' → w'.cell? ⟨bb, off + k * 6 + 3, none⟩ = some (.int .i64 (bx bs k).d) := fun w' h => (q0.ext h).six.2.2.2.1
                have h4 : ∀ w', Ext wr w' → w'.cell? ⟨bb, off + k * 6 + 4, none⟩ = some (.int .i64 (bx bs k).n) := fun w' h => (q0.ext h).six.2.2.2.2.1
                have h5 : ∀ w', Ext wr w' → w'.cell? ⟨bb, off + k * 6 + 5, none⟩ = some (.bool (bx bs k).s) := fun w' h => (q0.ext h).six.2.2.2.2.2
                obtain ⟨K, hK⟩ : ∃ K, K = rkB x y (bx bs b) (bx bs k) := ⟨_, rfl⟩
                rw [← HE2.out, ← hK] at PR
                rw [← hK] at HYk HNk
                generalize ruR x y (bx bs b).a (bx bs b).b (bx bs b).c (bx bs b).d (bx bs b).n (bx bs b).s (bx bs k).a (bx bs k).b (bx bs k).c (bx bs k).d (bx bs k).n (bx bs k).s = Q at PR
                have hF := fun w => fieldK K Q w
                obtain ⟨zs, hzs⟩ : ∃ zs, zs = kbN x y bs b k := ⟨_, rfl⟩
                rw [← hzs] at HZ HYk HNk LN
                clear p0 q0 HE2 hK hzs
                obtain ⟨P, hP⟩ : ∃ P, P = bx bs b := ⟨_, rfl⟩
                obtain ⟨R, hR⟩ : ∃ R, R = bx bs k := ⟨_, rfl⟩
                rw [← hP] at f0 f1 f2 f3 f4 f5 PR
                rw [← hR] at h0 h1 h2 h3 h4 h5 PR
                clear hP hR
                go_wp2_with fail
                refine wp_region_held_drew (S := (fun w' => Ext wr w')) (by kernel_rfl) (by (try dsimp only); first | go_keep | exact (Ext.refl _).drew | exact Res.new2.drew | exact Res.new4.drew | exact ResB.drew (by assumption) | exact ResC.drew (by assumption) | assumption | exact Ext.drew (by assumption) | exact Res.drew (by assumption)) (fun hHeld => ?_)
                refine Ord.K 0 47 ?_
                refine Ord.K 1 48 ?_
                refine Ord.K 2 49 ?_
                refine Ord.K 3 50 ?_
                (first | (refine Ord.s 4 51 ?_ ?_; rfl; (try simp only [Act.put, Ord.a, Ord.b, Ord.c])) | refine Ord.K 4 51 ?_)
                (first | (refine Ord.s 5 52 ?_ ?_; rfl; (try simp only [Act.put, Ord.a, Ord.b, Ord.c])) | refine Ord.K 5 52 ?_)
                (first | (refine Ord.s 6 53 ?_ ?_; rfl; (try simp only [Act.put, Ord.a, Ord.b, Ord.c])) | refine Ord.K 6 53 ?_)
                (first | (refine Ord.s 7 54 ?_ ?_; rfl; (try simp only [Act.put, Ord.a, Ord.b, Ord.c])) | refine Ord.K 7 54 ?_)
                (first | (refine Ord.s 8 55 ?_ ?_; rfl; (try simp only [Act.put, Ord.a, Ord.b, Ord.c])) | refine Ord.K 8 55 ?_)
                (first | (refine Ord.s 9 56 ?_ ?_; rfl; (try simp only [Act.put, Ord.a, Ord.b, Ord.c])) | refine Ord.K 9 56 ?_)
                (first | (refine Ord.s 10 57 ?_ ?_; rfl; (try simp only [Act.put, Ord.a, Ord.b, Ord.c])) | refine Ord.K 10 57 ?_)
                (first | (refine Ord.s 11 58 ?_ ?_; rfl; (try simp only [Act.put, Ord.a, Ord.b, Ord.c])) | refine Ord.K 11 58 ?_)
                (first | (refine Ord.s 12 59 ?_ ?_; rfl; (try simp only [Act.put, Ord.a, Ord.b, Ord.c])) | refine Ord.K 12 59 ?_)
                (first | (refine Ord.s 13 60 ?_ ?_; rfl; (try simp only [Act.put, Ord.a, Ord.b, Ord.c])) | (refine wpAnyH_ready (rs := [13]) (by kernel_rfl) (by simp) ?_; refine AllReadyH.cons rfl (fun K hK => ?_) AllReadyH.nil; go_simp; (go_at_call 56; refine (PR.out _).mono ?_; rintro e w5 ⟨rfl, hy⟩); go_wp2_with fail; (refine hK.out _ _ (by first | assumption | exact Ext.trans (by assumption) hy | exact Res.ext (by assumption) hy | exact ResB.ext (by assumption) hy | exact ResC.ext (by assumption) hy | (go_split_ands; (repeat' apply And.intro) <;> exact Ext.cellOf hy (by assumption))) (fun hHeld => ?_)); clear hK K; (try simp only [Act.put, Ord.a, Ord.b, Ord.c])))
                (first | (refine Ord.s 14 61 ?_ ?_; rfl; (try simp only [Act.put, Ord.a, Ord.b, Ord.c])) | refine Ord.K 14 61 ?_)
                (first | (refine Ord.s 15 62 ?_ ?_; rfl; (try simp only [Act.put, Ord.a, Ord.b, Ord.c])) | refine Ord.K 15 62 ?_)
                refine Ord.K 16 63 ?_
                refine wpAnyH_done (by kernel_rfl) ?_ _
                have hz : Ext wr w5 := hHeld
                clear f0 f1 f2 f3 f4 f5 h0 h1 h2 h3 h4 h5 g0 g1 hF hr hHeld hy
                by_cases hK1 : K = 1
                · have hKb : (K == 1) = true := beq_iff_eq.2 hK1
                  have EQ := Lib.hid (HYk.out hkb hK1)
                  have OA := row_ext (row_ext HZ.out hz) ((Ext.refl w5).alloc (.cells #[.int .i64 (k : Int)] 2))
                  have XA := Lib.hid ((HXi.out.trans hz).alloc (.cells #[.int .i64 (k : Int)] 2))
                  have CC := Lib.hid (lit1 (w := w5) (n := w5.heap.size) (u := .int .i64 (k : Int)) (t := 2) rfl)
                  have P1 := Lib.hid (oneI (k : Int))
                  have P3 := Lib.hid (show zs.length + 1 ≤ maxLen by unfold maxLen; have := LN.out; omega)
                  have P4 := Lib.hid (show (zs.length + 1) * 8 ≤ 140737488355328 by have := LN.out; omega)
                  have zA := Lib.hid (Ext.size XA.out)
                  have E5 := Lib.hid (show cellsZ (zs ++ [(k : Int)]) = cellsZ zs ++ [.int .i64 (k : Int)] by simp [cellsZ])
                  have L5 := Lib.hid (show (zs ++ [(k : Int)]).length = zs.length + 1 by simp)
                  clear hK1 hz
                  go_wp2_with (at_builtin; refine wpList_append_own _ rfl _ _ 43 rfl wo.heap.size 2 k0 (.int .i64 0) 1 8 Try.underlying43 kin kz0 kz1 kz2 rfl (by decide) _ zs.length _ rfl OA ⟨w5.heap.size, 0, none⟩ 1 1 [.int .i64 (k : Int)] rfl rfl CC.out P1.out P3.out P4.out zA.out ?_; intro v1 w6 hown hgrow hnil; have O5 := Lib.hid (show OwnZ w6 wo.heap.size v1 (zs ++ [(k : Int)]) by unfold OwnZ; rw [L5.out, E5.out]; exact hown); have X5 := Lib.hid (row_grown (w0 := wo) OA hgrow (Nat.le_refl _) XA.out); clear hown hgrow hnil OA)
                  go_roundw
                  case rel => exact ⟨k + 1, by go_num, by omega, by rw [EQ.out]; exact O5.out, X5.out⟩
                  case measure => simp [intOf]; omega
                · have hKb : (K == 1) = false := beq_eq_false_iff_ne.2 hK1
                  have EQ := Lib.hid (HNk.out hK1)
                  have HZ2 := Lib.hid hz
                  clear hK1 hz
                  go_wp2
                  go_roundw
                  case rel => exact ⟨k + 1, by go_num, by omega, by rw [EQ.out]; exact OwnZ.ext HZ.out HZ2.out, HXi.out.trans HZ2.out⟩
                  case measure => simp [intOf]; omega
            · obtain rfl : k = bs.length := by omega
              have KL := Lib.hid (kb_len x y bs b bs.length)
              obtain ⟨zs, hzs⟩ : ∃ zs, zs = kbN x y bs b bs.length := ⟨_, rfl⟩
              rw [← hzs] at HZ EK KL
              clear hzs
              obtain ⟨ra, rc, rfl, -⟩ := HZ.out.zxs (by unfold maxLen; have := KL.out; have := H16.out; omega)
              have OA := ((HO.out.ext HXi.out).ext ((Ext.refl wr).alloc (.cells #[.slice ra zs.length rc] 43))).row
              have XA := Lib.hid ((HX.out.trans HXi.out).alloc (.cells #[.slice ra zs.length rc] 43))
              have CC := Lib.hid (lit1 (w := wr) (n := wr.heap.size) (u := .slice ra zs.length rc) (t := 43) rfl)
              have P1 := Lib.hid (oneS ra zs.length rc)
              rw [TL.out] at OA
              have P3 := Lib.hid (show b + 1 ≤ maxLen by unfold maxLen; have := H16.out; omega)
              have P4 := Lib.hid (show (b + 1) * 24 ≤ 140737488355328 by have := H16.out; omega)
              have zA := Lib.hid (show w.heap.size + 1 ≤ (wr.alloc (.cells #[.slice ra zs.length rc] 43)).heap.size by have := Ext.size XA.out; omega)
              have QZ := Lib.hid (OwnZ.ext HZ.out ((Ext.refl wr).alloc (.cells #[.slice ra zs.length rc] 43)))
              have QX := Lib.hid (HXi.out.trans ((Ext.refl wr).alloc (.cells #[.slice ra zs.length rc] 43)))
              have QW := Lib.hid (show w.heap.size + 1 ≤ wo.heap.size by have := Ext.size HX.out; omega)
              have QB := Lib.hid (show W0.heap.size ≤ w.heap.size + 1 by omega)
              go_wp2_with (at_builtin; refine wpList_append_own_at _ rfl _ _ 29 rfl (w.heap.size + 1) 43 i0 (.slice none 0 0) 1 24 Try.underlying29 hin hz0 hz1 hz2 rfl (by decide) _ b _ rfl OA ⟨wr.heap.size, 0, none⟩ 1 1 [.slice ra zs.length rc] rfl rfl CC.out P1.out P3.out P4.out zA.out ?_; intro v1 w5 hown hgrow hnil hat; have R5 := Lib.hid (OwnG.push HO.out QX.out QZ.out (Nat.le_refl _) QW.out (by rw [TL.out]; exact hown) hgrow hat); have X5 := Lib.hid (row_grown (w0 := W0) OA hgrow QB.out XA.out); clear hown hgrow hnil hat OA)
              go_roundw
              case rel => exact ⟨b + 1, vs ++ [.slice ra zs.length rc], by go_num, by omega, by rw [EK.out]; exact R5.out, X5.out⟩
              case measure => simp [intOf]; omega
        · obtain rfl : b = bs.length := by omega
          go_wp2
          go_ret2
          exact ⟨_, vs, ret_vi HE.out.1, by rw [HE.out.2]; exact HO.out.mono sW, hX.trans HX.out⟩

end Go.Proofs.Ytcangdcakgcpaaa.Kct
