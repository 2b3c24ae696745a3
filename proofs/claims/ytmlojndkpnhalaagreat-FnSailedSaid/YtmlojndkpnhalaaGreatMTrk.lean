import Derived.Test.YtmlojndkpnhalaaGreatMPts
import Derived.Test.YtmlojndkpnhalaaGreatOrd
import Derived.IntWalk
import Derived.PlainAid
namespace Go.Proofs.YtmlojndkpnhalaaGreat.Trk
open Go.ChangeShapes Go.WideShapes Go.ChangeAt Go.RowKit
open Go.Proofs.YtmlojndkpnhalaaGreat.Num Go.Proofs.YtmlojndkpnhalaaGreat.Kit Go.Proofs.YtmlojndkpnhalaaGreat.Pts
set_option linter.unusedVariables false
set_option linter.unusedSimpArgs false
def tmB (n : Int) : Bool := inB n 0 1000000000
def fxB (f : F3) : Bool := tmB f.t && ptB f.x f.y
def okB (fs : List F3) (k : Nat) : Bool := fxB (fx fs k) && (decide (k = 0) || decide ((fx fs (k - 1)).t < (fx fs k).t))
def trB (fs : List F3) : Bool := decide (2 ≤ fs.length) && (decide (fs.length ≤ 40) && (List.range fs.length).all (okB fs))
theorem trB_short {fs : List F3} (h : fs.length < 2) : trB fs = false := by unfold trB; rw [decide_eq_false (by omega)]; rfl
theorem trB_long {fs : List F3} (h : 40 < fs.length) : trB fs = false := by unfold trB; rw [decide_eq_false (p := fs.length ≤ 40) (by omega)]; simp
theorem trB_no {fs : List F3} {k : Nat} (hk : k < fs.length) (h : okB fs k = false) : trB fs = false := by
  unfold trB
  rw [show (List.range fs.length).all (okB fs) = false from List.all_eq_false.2 ⟨k, by simpa using hk, by simp [h]⟩]; simp
theorem trB_all {fs : List F3} (h2 : 2 ≤ fs.length) (h40 : fs.length ≤ 40) (h : ∀ k, k < fs.length → okB fs k = true) : trB fs = true := by
  unfold trB
  rw [decide_eq_true h2, decide_eq_true h40, show (List.range fs.length).all (okB fs) = true from List.all_eq_true.2 fun k hk => h k (by simpa using hk)]; rfl
theorem trB_yes {fs : List F3} (h : trB fs = true) : (2 ≤ fs.length ∧ fs.length ≤ 40) ∧ ∀ k, k < fs.length → okB fs k = true := by
  unfold trB at h
  simp only [Bool.and_eq_true, decide_eq_true_eq] at h
  exact ⟨⟨h.1, h.2.1⟩, fun k hk => List.all_eq_true.1 h.2.2 k (by simpa using hk)⟩
theorem isTime_any (n : Int) (w : World) : Calls Tryz.prog 274 #[.int .i64 n] w fun e w' => e = .returned (.bool (tmB n)) ∧ w = w' := by
  by_cases h1 : 0 ≤ n
  · by_cases h2 : n ≤ 1000000000
    · have H := Lib.hid (show tmB n = true from inB_yes h1 h2)
      go_enter Tryz.func274, Tryz.ntmps274
      go_wp2
      go_ret
      exact ⟨ret_bool H.out, rfl⟩
    · have H := Lib.hid (show tmB n = false from inB_no (fun h => h2 h.2))
      go_enter Tryz.func274, Tryz.ntmps274
      go_wp2
      go_ret
      exact ⟨ret_bool H.out, rfl⟩
  · have H := Lib.hid (show tmB n = false from inB_no (fun h => h1 h.1))
    go_enter Tryz.func274, Tryz.ntmps274
    go_wp2
    go_ret
    exact ⟨ret_bool H.out, rfl⟩
theorem point_impl (t x y : Int) (w : World) : Calls Tryz.prog 209 #[Fx t x y] w fun e w' => e = .returned (Pt x y) ∧ Ext w w' := by
  go_enter Tryz.func209, Tryz.ntmps209
  go_wp2
  exact bodyPost_ret (v := Pt x y) (by simp [results, Tryz.results209, go_sem]) rfl ⟨rfl, (by repeat (first | exact Ext.refl _ | assumption | apply Ext.alloc | apply Ext.drew | (refine Ext.trans ?_ (by assumption)) | (refine Ext.setNew ?_ (by simp <;> omega) _)))⟩
theorem point_spec (t x y : Int) (w : World) : Calls Tryz.prog 144 #[Fx t x y] w fun e w' => e = .returned (Pt x y) ∧ Ext w w' := by
  go_enter Tryz.func144, Tryz.ntmps144
  go_wp2
  exact bodyPost_ret (v := Pt x y) (by simp [results, Tryz.results144, go_sem]) rfl ⟨rfl, (by repeat (first | exact Ext.refl _ | assumption | apply Ext.alloc | apply Ext.drew | (refine Ext.trans ?_ (by assumption)) | (refine Ext.setNew ?_ (by simp <;> omega) _)))⟩
theorem fixValid_any (t x y : Int) (w : World) : Calls Tryz.prog 222 #[Fx t x y] w fun e w' => e = .returned (.bool (fxB ⟨t, x, y⟩)) ∧ Ext w w' := by
  cases h : tmB t
  · have H := Lib.hid (show fxB ⟨t, x, y⟩ = false by unfold fxB; rw [h]; rfl)
    go_enter Tryz.func222, Tryz.ntmps222
    go_wp2_with (first | (go_at_call 274; refine (isTime_any _ _).mono ?_; rintro e w' ⟨rfl, rfl⟩))
    go_ret
    exact ⟨ret_bool H.out, (by repeat (first | exact Ext.refl _ | assumption | apply Ext.alloc | apply Ext.drew | (refine Ext.trans ?_ (by assumption)) | (refine Ext.setNew ?_ (by simp <;> omega) _)))⟩
  · have H := Lib.hid (show fxB ⟨t, x, y⟩ = ptB x y by unfold fxB; rw [h]; rfl)
    go_enter Tryz.func222, Tryz.ntmps222
    go_wp2_with (first | (go_at_call 274; refine (isTime_any _ _).mono ?_; rintro e w' ⟨rfl, rfl⟩) | (go_at_call 209; refine (point_impl _ _ _ _).mono ?_; rintro e w1 ⟨rfl, hx⟩) | (go_at_call 168; refine (isValid_any _ _ _).mono ?_; rintro e w2 ⟨rfl, hx2⟩))
    go_ret
    exact ⟨ret_bool H.out, (by repeat (first | exact Ext.refl _ | assumption | apply Ext.alloc | apply Ext.drew | (refine Ext.trans ?_ (by assumption)) | (refine Ext.setNew ?_ (by simp <;> omega) _)))⟩
theorem fixValid_of (f : F3) (w : World) : Calls Tryz.prog 222 #[Fx f.t f.x f.y] w fun e w' => e = .returned (.bool (fxB f)) ∧ Ext w w' := fixValid_any f.t f.x f.y w
def RelV (w : World) (fs : List F3) (i : Value) (wr : World) : Prop := ∃ k : Nat, i = .int .i64 k ∧ k ≤ fs.length ∧ (∀ j, j < k → okB fs j = true) ∧ Ext w wr
theorem okB_time {fs : List F3} {k : Nat} (h : fxB (fx fs k) = false) : okB fs k = false := by unfold okB; rw [h]; rfl
theorem okB_zero {fs : List F3} (h : fxB (fx fs 0) = true) : okB fs 0 = true := by unfold okB; rw [h]; rfl
theorem okB_succ {fs : List F3} {k : Nat} (h : fxB (fx fs (k + 1)) = true) : okB fs (k + 1) = decide ((fx fs k).t < (fx fs (k + 1)).t) := by unfold okB; rw [h]; simp
theorem RelV.step {w wr w' : World} {fs : List F3} {k : Nat} (hd : ∀ j, j < k → okB fs j = true) (hk : k < fs.length) (h : okB fs k = true) (hx : Ext w wr) (hy : Ext wr w') : RelV w fs (.int .i64 (k + 1)) w' :=
  ⟨k + 1, by go_num, by omega, fun j hj => by rcases Nat.lt_or_ge j k with g | g; exact hd j g; exact (show j = k by omega) ▸ h, hx.trans hy⟩
set_option maxHeartbeats 1000000 in
theorem trackValid_any (a : Option Addr) (cap : Nat) (fs : List F3) (w : World) (hf : Fxs w a fs) : Calls Tryz.prog 164 #[Tr (.slice a fs.length cap)] w fun e w' => e = .returned (.bool (trB fs)) ∧ Ext w w' := by
  have hm := hf.1
  unfold maxLen at hm
  have HF := Lib.hid hf
  clear hf
  by_cases h2 : fs.length < 2
  · have H := Lib.hid (trB_short h2)
    go_enter Tryz.func164, Tryz.ntmps164
    go_wp2
    go_ret
    exact ⟨ret_bool H.out, (by repeat (first | exact Ext.refl _ | assumption | apply Ext.alloc | apply Ext.drew | (refine Ext.trans ?_ (by assumption)) | (refine Ext.setNew ?_ (by simp <;> omega) _)))⟩
  by_cases h40 : 40 < fs.length
  · have H := Lib.hid (trB_long h40)
    go_enter Tryz.func164, Tryz.ntmps164
    go_wp2
    go_ret
    exact ⟨ret_bool H.out, (by repeat (first | exact Ext.refl _ | assumption | apply Ext.alloc | apply Ext.drew | (refine Ext.trans ?_ (by assumption)) | (refine Ext.setNew ?_ (by simp <;> omega) _)))⟩
  have q2 : decide ((fs.length : Int) < 2) = false := decide_eq_false (by omega)
  have q40 : decide (40 < (fs.length : Int)) = false := decide_eq_false (by omega)
  go_enter Tryz.func164, Tryz.ntmps164
  go_wp2
  go_loopw [18] (fun i wr => RelV (w.alloc (.cells #[.slice a fs.length cap] 33)) fs i wr) (fun i _ => fs.length - (intOf i).toNat)
  case atStart => exact ⟨0, rfl, Nat.zero_le _, fun j hj => absurd hj (by omega), Ext.refl _⟩
  case round =>
    obtain ⟨k, rfl, hk, hd, hx⟩ := hrel
    have HD := Lib.hid hd
    have HX := Lib.hid hx
    have bx : wr.cell? ⟨w.heap.size, 0, none⟩ = some (.slice a fs.length cap) := hx.cellOf (boxed 0 rfl rfl)
    clear hd hx
    by_cases hk1 : k < fs.length
    · rcases HF.out.2 with h0 | ⟨b, off, rfl, hb⟩
      · rw [h0] at hk1; simp at hk1
      have HB := Lib.hid hb
      clear hb
      obtain ⟨c0, c1, c2⟩ := ((HB.out k hk1).ext ((Ext.refl _).alloc _)).ext HX.out
      have i0 : (0 : Int) ≤ (k : Int) := by omega
      have i1 : (k : Int) < (fs.length : Int) := by omega
      cases hv : fxB (fx fs k)
      · have H := Lib.hid (trB_no hk1 (okB_time hv))
        go_wp2_with fail
        refine wp_region_held_drew (S := (fun w' => w'.cell? ⟨wr.heap.size, 0, none⟩ = some (.int .i64 (fx fs k).t) ∧ w'.cell? ⟨wr.heap.size, 1, none⟩ = some (.int .i64 (fx fs k).x) ∧ w'.cell? ⟨wr.heap.size, 2, none⟩ = some (.int .i64 (fx fs k).y) ∧ w'.cell? ⟨w.heap.size, 0, none⟩ = some (.slice (some ⟨b, off, none⟩) fs.length cap))) (by kernel_rfl) (by (try dsimp only); first | go_keep | exact (Ext.refl _).drew | exact Res.new2.drew | exact Res.new4.drew | exact ResB.drew (by assumption) | exact ResC.drew (by assumption) | assumption | exact Ext.drew (by assumption) | exact Res.drew (by assumption)) (fun hHeld => ?_)
        refine Ord.K 0 23 ?_
        (refine wpAnyH_ready (rs := [1]) (by kernel_rfl) (by simp) ?_; refine AllReadyH.cons rfl (fun K hK => ?_) AllReadyH.nil; go_simp; (go_at_call 222; refine (fixValid_of _ _).mono ?_; rintro e w1 ⟨rfl, hy⟩); go_wp2_with fail; (refine hK.out _ _ (by first | assumption | exact Ext.trans (by assumption) hy | exact Res.ext (by assumption) hy | exact ResB.ext (by assumption) hy | exact ResC.ext (by assumption) hy | (go_split_ands; (repeat' apply And.intro) <;> exact Ext.cellOf hy (by assumption))) (fun hHeld => ?_)); clear hK K; (try simp only [Act.put, Ord.a, Ord.b, Ord.c]))
        refine Ord.K 2 25 ?_
        refine Ord.K 3 26 ?_
        (refine Ord.s 4 27 ?_ ?_; rfl; (try simp only [Act.put, Ord.a, Ord.b, Ord.c]))
        (refine Ord.s 5 28 ?_ ?_; rfl; (try simp only [Act.put, Ord.a, Ord.b, Ord.c]))
        (refine Ord.s 6 29 ?_ ?_; rfl; (try simp only [Act.put, Ord.a, Ord.b, Ord.c]))
        (refine Ord.s 7 30 ?_ ?_; rfl; (try simp only [Act.put, Ord.a, Ord.b, Ord.c]))
        (refine Ord.s 8 31 ?_ ?_; rfl; (try simp only [Act.put, Ord.a, Ord.b, Ord.c]))
        (refine Ord.s 9 32 ?_ ?_; rfl; (try simp only [Act.put, Ord.a, Ord.b, Ord.c]))
        (refine Ord.s 10 33 ?_ ?_; rfl; (try simp only [Act.put, Ord.a, Ord.b, Ord.c]))
        (refine Ord.s 11 34 ?_ ?_; rfl; (try simp only [Act.put, Ord.a, Ord.b, Ord.c]))
        (refine Ord.s 12 35 ?_ ?_; rfl; (try simp only [Act.put, Ord.a, Ord.b, Ord.c]))
        (refine Ord.s 13 36 ?_ ?_; rfl; (try simp only [Act.put, Ord.a, Ord.b, Ord.c]))
        (refine Ord.s 14 37 ?_ ?_; rfl; (try simp only [Act.put, Ord.a, Ord.b, Ord.c]))
        (refine Ord.s 15 38 ?_ ?_; rfl; (try simp only [Act.put, Ord.a, Ord.b, Ord.c]))
        (refine Ord.s 16 39 ?_ ?_; rfl; (try simp only [Act.put, Ord.a, Ord.b, Ord.c]))
        (refine Ord.s 17 40 ?_ ?_; rfl; (try simp only [Act.put, Ord.a, Ord.b, Ord.c]))
        refine Ord.K 18 41 ?_
        refine wpAnyH_done (by kernel_rfl) ?_ _
        go_wp2
        go_ret
        exact ⟨ret_bool H.out, ((Ext.refl _).alloc _).trans (HX.out.trans (by repeat (first | exact Ext.refl _ | assumption | apply Ext.alloc | apply Ext.drew | (refine Ext.trans ?_ (by assumption)) | (refine Ext.setNew ?_ (by simp <;> omega) _))))⟩
      · by_cases hk0 : k = 0
        · have H := Lib.hid (show okB fs k = true by rw [hk0] at hv ⊢; exact okB_zero hv)
          have HK := Lib.hid hk0
          have z0 : decide (0 < k) = false := decide_eq_false (by omega)
          have z1 : decide ((0 : Int) < (k : Int)) = false := decide_eq_false (by omega)
          clear hk0
          go_wp2_with fail
          refine wp_region_held_drew (S := (fun w' => w'.cell? ⟨wr.heap.size, 0, none⟩ = some (.int .i64 (fx fs k).t) ∧ w'.cell? ⟨wr.heap.size, 1, none⟩ = some (.int .i64 (fx fs k).x) ∧ w'.cell? ⟨wr.heap.size, 2, none⟩ = some (.int .i64 (fx fs k).y) ∧ w'.cell? ⟨w.heap.size, 0, none⟩ = some (.slice (some ⟨b, off, none⟩) fs.length cap))) (by kernel_rfl) (by (try dsimp only); first | go_keep | exact (Ext.refl _).drew | exact Res.new2.drew | exact Res.new4.drew | exact ResB.drew (by assumption) | exact ResC.drew (by assumption) | assumption | exact Ext.drew (by assumption) | exact Res.drew (by assumption)) (fun hHeld => ?_)
          refine Ord.K 0 23 ?_
          (refine wpAnyH_ready (rs := [1]) (by kernel_rfl) (by simp) ?_; refine AllReadyH.cons rfl (fun K hK => ?_) AllReadyH.nil; go_simp; (go_at_call 222; refine (fixValid_of _ _).mono ?_; rintro e w1 ⟨rfl, hy⟩); go_wp2_with fail; (refine hK.out _ _ (by first | assumption | exact Ext.trans (by assumption) hy | exact Res.ext (by assumption) hy | exact ResB.ext (by assumption) hy | exact ResC.ext (by assumption) hy | (go_split_ands; (repeat' apply And.intro) <;> exact Ext.cellOf hy (by assumption))) (fun hHeld => ?_)); clear hK K; (try simp only [Act.put, Ord.a, Ord.b, Ord.c]))
          refine Ord.K 2 25 ?_
          refine Ord.K 3 26 ?_
          refine Ord.K 4 27 ?_
          refine Ord.K 5 28 ?_
          refine Ord.K 6 29 ?_
          (refine Ord.s 7 30 ?_ ?_; rfl; (try simp only [Act.put, Ord.a, Ord.b, Ord.c]))
          (refine Ord.s 8 31 ?_ ?_; rfl; (try simp only [Act.put, Ord.a, Ord.b, Ord.c]))
          (refine Ord.s 9 32 ?_ ?_; rfl; (try simp only [Act.put, Ord.a, Ord.b, Ord.c]))
          (refine Ord.s 10 33 ?_ ?_; rfl; (try simp only [Act.put, Ord.a, Ord.b, Ord.c]))
          (refine Ord.s 11 34 ?_ ?_; rfl; (try simp only [Act.put, Ord.a, Ord.b, Ord.c]))
          (refine Ord.s 12 35 ?_ ?_; rfl; (try simp only [Act.put, Ord.a, Ord.b, Ord.c]))
          (refine Ord.s 13 36 ?_ ?_; rfl; (try simp only [Act.put, Ord.a, Ord.b, Ord.c]))
          (refine Ord.s 14 37 ?_ ?_; rfl; (try simp only [Act.put, Ord.a, Ord.b, Ord.c]))
          (refine Ord.s 15 38 ?_ ?_; rfl; (try simp only [Act.put, Ord.a, Ord.b, Ord.c]))
          (refine Ord.s 16 39 ?_ ?_; rfl; (try simp only [Act.put, Ord.a, Ord.b, Ord.c]))
          refine Ord.K 17 40 ?_
          refine Ord.K 18 41 ?_
          refine wpAnyH_done (by kernel_rfl) ?_ _
          go_wp2
          go_roundw
          case rel => exact RelV.step HD.out hk1 H.out HX.out (by repeat (first | exact Ext.refl _ | assumption | apply Ext.alloc | apply Ext.drew | (refine Ext.trans ?_ (by assumption)) | (refine Ext.setNew ?_ (by simp <;> omega) _)))
          case measure => simp [intOf]; omega
        · have HOK := Lib.hid (show okB fs k = decide ((fx fs (k - 1)).t < (fx fs k).t) by obtain ⟨j, rfl⟩ : ∃ j, k = j + 1 := ⟨k - 1, by omega⟩; exact okB_succ hv)
          obtain ⟨p0, _, _⟩ := ((HB.out (k - 1) (by omega)).ext ((Ext.refl _).alloc _)).ext HX.out
          have z0 : decide (0 < k) = true := decide_eq_true (by omega)
          have z1 : decide ((0 : Int) < (k : Int)) = true := decide_eq_true (by omega)
          have t2 : (0 : Int) ≤ (k : Int) - 1 := by omega
          have t3 : (1 : Int) ≤ (k : Int) := by omega
          have t4 : (k : Int) - 1 < (fs.length : Int) := by omega
          have T0 : IntKind.i64.wrap ((k : Int) - 1) = (k : Int) - 1 := IntWalk.i64_in _ (by omega)
          have T1 : ((k : Int) - 1).toNat = k - 1 := by omega
          by_cases hlt : (fx fs (k - 1)).t < (fx fs k).t
          · have H := Lib.hid (show okB fs k = true by rw [HOK.out]; exact decide_eq_true hlt)
            have z2 : decide ((fx fs k).t ≤ (fx fs (k - 1)).t) = false := decide_eq_false (by omega)
            go_wp2_with fail
            refine wp_region_held_drew (S := (fun w' => w'.cell? ⟨wr.heap.size, 0, none⟩ = some (.int .i64 (fx fs k).t) ∧ w'.cell? ⟨wr.heap.size, 1, none⟩ = some (.int .i64 (fx fs k).x) ∧ w'.cell? ⟨wr.heap.size, 2, none⟩ = some (.int .i64 (fx fs k).y) ∧ w'.cell? ⟨w.heap.size, 0, none⟩ = some (.slice (some ⟨b, off, none⟩) fs.length cap) ∧ w'.cell? ⟨b, off + (k - 1) * 3, none⟩ = some (.int .i64 (fx fs (k - 1)).t))) (by kernel_rfl) (by (try dsimp only); first | go_keep | exact (Ext.refl _).drew | exact Res.new2.drew | exact Res.new4.drew | exact ResB.drew (by assumption) | exact ResC.drew (by assumption) | assumption | exact Ext.drew (by assumption) | exact Res.drew (by assumption)) (fun hHeld => ?_)
            refine Ord.K 0 23 ?_
            (refine wpAnyH_ready (rs := [1]) (by kernel_rfl) (by simp) ?_; refine AllReadyH.cons rfl (fun K hK => ?_) AllReadyH.nil; go_simp; (go_at_call 222; refine (fixValid_of _ _).mono ?_; rintro e w1 ⟨rfl, hy⟩); go_wp2_with fail; (refine hK.out _ _ (by first | assumption | exact Ext.trans (by assumption) hy | exact Res.ext (by assumption) hy | exact ResB.ext (by assumption) hy | exact ResC.ext (by assumption) hy | (go_split_ands; (repeat' apply And.intro) <;> exact Ext.cellOf hy (by assumption))) (fun hHeld => ?_)); clear hK K; (try simp only [Act.put, Ord.a, Ord.b, Ord.c]))
            refine Ord.K 2 25 ?_
            refine Ord.K 3 26 ?_
            refine Ord.K 4 27 ?_
            refine Ord.K 5 28 ?_
            refine Ord.K 6 29 ?_
            refine Ord.K 7 30 ?_
            refine Ord.K 8 31 ?_
            refine Ord.K 9 32 ?_
            refine Ord.K 10 33 ?_
            refine Ord.K 11 34 ?_
            refine Ord.K 12 35 ?_
            refine Ord.K 13 36 ?_
            refine Ord.K 14 37 ?_
            refine Ord.K 15 38 ?_
            refine Ord.K 16 39 ?_
            refine Ord.K 17 40 ?_
            refine Ord.K 18 41 ?_
            refine wpAnyH_done (by kernel_rfl) ?_ _
            clear T0 T1
            go_wp2
            go_roundw
            case rel => exact RelV.step HD.out hk1 H.out HX.out (by repeat (first | exact Ext.refl _ | assumption | apply Ext.alloc | apply Ext.drew | (refine Ext.trans ?_ (by assumption)) | (refine Ext.setNew ?_ (by simp <;> omega) _)))
            case measure => simp [intOf]; omega
          · have H := Lib.hid (trB_no hk1 (show okB fs k = false by rw [HOK.out]; exact decide_eq_false hlt))
            have z2 : decide ((fx fs k).t ≤ (fx fs (k - 1)).t) = true := decide_eq_true (by omega)
            go_wp2_with fail
            refine wp_region_held_drew (S := (fun w' => w'.cell? ⟨wr.heap.size, 0, none⟩ = some (.int .i64 (fx fs k).t) ∧ w'.cell? ⟨wr.heap.size, 1, none⟩ = some (.int .i64 (fx fs k).x) ∧ w'.cell? ⟨wr.heap.size, 2, none⟩ = some (.int .i64 (fx fs k).y) ∧ w'.cell? ⟨w.heap.size, 0, none⟩ = some (.slice (some ⟨b, off, none⟩) fs.length cap) ∧ w'.cell? ⟨b, off + (k - 1) * 3, none⟩ = some (.int .i64 (fx fs (k - 1)).t))) (by kernel_rfl) (by (try dsimp only); first | go_keep | exact (Ext.refl _).drew | exact Res.new2.drew | exact Res.new4.drew | exact ResB.drew (by assumption) | exact ResC.drew (by assumption) | assumption | exact Ext.drew (by assumption) | exact Res.drew (by assumption)) (fun hHeld => ?_)
            refine Ord.K 0 23 ?_
            (refine wpAnyH_ready (rs := [1]) (by kernel_rfl) (by simp) ?_; refine AllReadyH.cons rfl (fun K hK => ?_) AllReadyH.nil; go_simp; (go_at_call 222; refine (fixValid_of _ _).mono ?_; rintro e w1 ⟨rfl, hy⟩); go_wp2_with fail; (refine hK.out _ _ (by first | assumption | exact Ext.trans (by assumption) hy | exact Res.ext (by assumption) hy | exact ResB.ext (by assumption) hy | exact ResC.ext (by assumption) hy | (go_split_ands; (repeat' apply And.intro) <;> exact Ext.cellOf hy (by assumption))) (fun hHeld => ?_)); clear hK K; (try simp only [Act.put, Ord.a, Ord.b, Ord.c]))
            refine Ord.K 2 25 ?_
            refine Ord.K 3 26 ?_
            refine Ord.K 4 27 ?_
            refine Ord.K 5 28 ?_
            refine Ord.K 6 29 ?_
            refine Ord.K 7 30 ?_
            refine Ord.K 8 31 ?_
            refine Ord.K 9 32 ?_
            refine Ord.K 10 33 ?_
            refine Ord.K 11 34 ?_
            refine Ord.K 12 35 ?_
            refine Ord.K 13 36 ?_
            refine Ord.K 14 37 ?_
            refine Ord.K 15 38 ?_
            refine Ord.K 16 39 ?_
            refine Ord.K 17 40 ?_
            refine Ord.K 18 41 ?_
            refine wpAnyH_done (by kernel_rfl) ?_ _
            clear T0 T1
            go_wp2
            go_ret
            exact ⟨ret_bool H.out, ((Ext.refl _).alloc _).trans (HX.out.trans (by repeat (first | exact Ext.refl _ | assumption | apply Ext.alloc | apply Ext.drew | (refine Ext.trans ?_ (by assumption)) | (refine Ext.setNew ?_ (by simp <;> omega) _))))⟩
    · obtain rfl : k = fs.length := by omega
      have H := Lib.hid (trB_all (by omega) (by omega) HD.out)
      go_wp2
      go_ret
      exact ⟨ret_bool H.out, ((Ext.refl _).alloc _).trans HX.out⟩
theorem fxB_time {f : F3} (h : inB f.t 0 1000000000 = false) : fxB f = false := by unfold fxB tmB; rw [h]; rfl
theorem fxB_pt {f : F3} (h : ptB f.x f.y = false) : fxB f = false := by unfold fxB; rw [h]; simp
theorem fxB_both {f : F3} (h : inB f.t 0 1000000000 = true) (g : ptB f.x f.y = true) : fxB f = true := by unfold fxB tmB; rw [h, g]; rfl
set_option maxHeartbeats 1000000 in
theorem isTrack_spec (a : Option Addr) (cap : Nat) (fs : List F3) (w : World) (hf : Fxs w a fs) : Calls Tryz.prog 76 #[Tr (.slice a fs.length cap)] w fun e w' => e = .returned (.bool (trB fs)) ∧ Ext w w' := by
  have hm := hf.1
  unfold maxLen at hm
  have HF := Lib.hid hf
  clear hf
  by_cases h2 : fs.length < 2
  · have H := Lib.hid (trB_short h2)
    go_enter Tryz.func76, Tryz.ntmps76
    go_wp2
    go_ret
    exact ⟨ret_bool H.out, (by repeat (first | exact Ext.refl _ | assumption | apply Ext.alloc | apply Ext.drew | (refine Ext.trans ?_ (by assumption)) | (refine Ext.setNew ?_ (by simp <;> omega) _)))⟩
  by_cases h40 : 40 < fs.length
  · have H := Lib.hid (trB_long h40)
    go_enter Tryz.func76, Tryz.ntmps76
    go_wp2
    go_ret
    exact ⟨ret_bool H.out, (by repeat (first | exact Ext.refl _ | assumption | apply Ext.alloc | apply Ext.drew | (refine Ext.trans ?_ (by assumption)) | (refine Ext.setNew ?_ (by simp <;> omega) _)))⟩
  have q2 : decide ((fs.length : Int) < 2) = false := decide_eq_false (by omega)
  have q40 : decide (40 < (fs.length : Int)) = false := decide_eq_false (by omega)
  go_enter Tryz.func76, Tryz.ntmps76
  go_wp2
  go_loopw [4] (fun i wr => RelV (w.alloc (.cells #[.slice a fs.length cap] 33)) fs i wr) (fun i _ => fs.length - (intOf i).toNat)
  case atStart => exact ⟨0, rfl, Nat.zero_le _, fun j hj => absurd hj (by omega), Ext.refl _⟩
  case round =>
    obtain ⟨k, rfl, hk, hd, hx⟩ := hrel
    have HD := Lib.hid hd
    have HX := Lib.hid hx
    have bx : wr.cell? ⟨w.heap.size, 0, none⟩ = some (.slice a fs.length cap) := hx.cellOf (boxed 0 rfl rfl)
    clear hd hx
    by_cases hk1 : k < fs.length
    · rcases HF.out.2 with h0 | ⟨b, off, rfl, hb⟩
      · rw [h0] at hk1; simp at hk1
      have HB := Lib.hid hb
      clear hb
      obtain ⟨c0, c1, c2⟩ := ((HB.out k hk1).ext ((Ext.refl _).alloc _)).ext HX.out
      have i0 : (0 : Int) ≤ (k : Int) := by omega
      have i1 : (k : Int) < (fs.length : Int) := by omega
      cases hv : inB (fx fs k).t 0 1000000000
      · have H := Lib.hid (trB_no hk1 (okB_time (fxB_time hv)))
        go_wp2_with fail
        refine wp_region_held_drew (S := (fun w' => w'.cell? ⟨wr.heap.size, 0, none⟩ = some (.int .i64 (fx fs k).t) ∧ w'.cell? ⟨wr.heap.size, 1, none⟩ = some (.int .i64 (fx fs k).x) ∧ w'.cell? ⟨wr.heap.size, 2, none⟩ = some (.int .i64 (fx fs k).y) ∧ w'.cell? ⟨w.heap.size, 0, none⟩ = some (.slice (some ⟨b, off, none⟩) fs.length cap))) (by kernel_rfl) (by (try dsimp only); first | go_keep | exact (Ext.refl _).drew | exact Res.new2.drew | exact Res.new4.drew | exact ResB.drew (by assumption) | exact ResC.drew (by assumption) | assumption | exact Ext.drew (by assumption) | exact Res.drew (by assumption)) (fun hHeld => ?_)
        refine Ord.K 0 25 ?_
        refine Ord.K 1 26 ?_
        (refine wpAnyH_ready (rs := [2]) (by kernel_rfl) (by simp) ?_; refine AllReadyH.cons rfl (fun K hK => ?_) AllReadyH.nil; go_simp; (first | (go_at_call 82; refine (in_any _ _ _ _).mono ?_; rintro e w1 ⟨rfl, rfl⟩) | (go_at_call 144; refine (point_spec _ _ _ _).mono ?_; rintro e w1 ⟨rfl, hy⟩) | (go_at_call 134; refine (isPoint_spec _ _ _).mono ?_; rintro e w1 ⟨rfl, hy⟩)); go_wp2_with fail; (refine hK.out _ _ (by first | assumption | exact Ext.trans (by assumption) hy | exact Res.ext (by assumption) hy | exact ResB.ext (by assumption) hy | exact ResC.ext (by assumption) hy | (go_split_ands; (repeat' apply And.intro) <;> exact Ext.cellOf hy (by assumption))) (fun hHeld => ?_)); clear hK K; (try simp only [Act.put, Ord.a, Ord.b, Ord.c]))
        refine Ord.K 3 28 ?_
        refine Ord.K 4 29 ?_
        (refine Ord.s 5 30 ?_ ?_; rfl; (try simp only [Act.put, Ord.a, Ord.b, Ord.c]))
        (refine Ord.s 6 31 ?_ ?_; rfl; (try simp only [Act.put, Ord.a, Ord.b, Ord.c]))
        (refine Ord.s 7 32 ?_ ?_; rfl; (try simp only [Act.put, Ord.a, Ord.b, Ord.c]))
        (refine Ord.s 8 33 ?_ ?_; rfl; (try simp only [Act.put, Ord.a, Ord.b, Ord.c]))
        refine Ord.K 9 34 ?_
        refine Ord.K 10 35 ?_
        (refine Ord.s 11 36 ?_ ?_; rfl; (try simp only [Act.put, Ord.a, Ord.b, Ord.c]))
        (refine Ord.s 12 37 ?_ ?_; rfl; (try simp only [Act.put, Ord.a, Ord.b, Ord.c]))
        (refine Ord.s 13 38 ?_ ?_; rfl; (try simp only [Act.put, Ord.a, Ord.b, Ord.c]))
        (refine Ord.s 14 39 ?_ ?_; rfl; (try simp only [Act.put, Ord.a, Ord.b, Ord.c]))
        (refine Ord.s 15 40 ?_ ?_; rfl; (try simp only [Act.put, Ord.a, Ord.b, Ord.c]))
        (refine Ord.s 16 41 ?_ ?_; rfl; (try simp only [Act.put, Ord.a, Ord.b, Ord.c]))
        (refine Ord.s 17 42 ?_ ?_; rfl; (try simp only [Act.put, Ord.a, Ord.b, Ord.c]))
        (refine Ord.s 18 43 ?_ ?_; rfl; (try simp only [Act.put, Ord.a, Ord.b, Ord.c]))
        (refine Ord.s 19 44 ?_ ?_; rfl; (try simp only [Act.put, Ord.a, Ord.b, Ord.c]))
        (refine Ord.s 20 45 ?_ ?_; rfl; (try simp only [Act.put, Ord.a, Ord.b, Ord.c]))
        (refine Ord.s 21 46 ?_ ?_; rfl; (try simp only [Act.put, Ord.a, Ord.b, Ord.c]))
        (refine Ord.s 22 47 ?_ ?_; rfl; (try simp only [Act.put, Ord.a, Ord.b, Ord.c]))
        (refine Ord.s 23 48 ?_ ?_; rfl; (try simp only [Act.put, Ord.a, Ord.b, Ord.c]))
        (refine Ord.s 24 49 ?_ ?_; rfl; (try simp only [Act.put, Ord.a, Ord.b, Ord.c]))
        refine Ord.K 25 50 ?_
        refine wpAnyH_done (by kernel_rfl) ?_ _
        go_wp2
        go_ret
        exact ⟨ret_bool H.out, ((Ext.refl _).alloc _).trans (HX.out.trans (by repeat (first | exact Ext.refl _ | assumption | apply Ext.alloc | apply Ext.drew | (refine Ext.trans ?_ (by assumption)) | (refine Ext.setNew ?_ (by simp <;> omega) _))))⟩
      cases hq : ptB (fx fs k).x (fx fs k).y
      · have H := Lib.hid (trB_no hk1 (okB_time (fxB_pt hq)))
        go_wp2_with fail
        refine wp_region_held_drew (S := (fun w' => w'.cell? ⟨wr.heap.size, 0, none⟩ = some (.int .i64 (fx fs k).t) ∧ w'.cell? ⟨wr.heap.size, 1, none⟩ = some (.int .i64 (fx fs k).x) ∧ w'.cell? ⟨wr.heap.size, 2, none⟩ = some (.int .i64 (fx fs k).y) ∧ w'.cell? ⟨w.heap.size, 0, none⟩ = some (.slice (some ⟨b, off, none⟩) fs.length cap))) (by kernel_rfl) (by (try dsimp only); first | go_keep | exact (Ext.refl _).drew | exact Res.new2.drew | exact Res.new4.drew | exact ResB.drew (by assumption) | exact ResC.drew (by assumption) | assumption | exact Ext.drew (by assumption) | exact Res.drew (by assumption)) (fun hHeld => ?_)
        refine Ord.K 0 25 ?_
        refine Ord.K 1 26 ?_
        (refine wpAnyH_ready (rs := [2]) (by kernel_rfl) (by simp) ?_; refine AllReadyH.cons rfl (fun K hK => ?_) AllReadyH.nil; go_simp; (first | (go_at_call 82; refine (in_any _ _ _ _).mono ?_; rintro e w1 ⟨rfl, rfl⟩) | (go_at_call 144; refine (point_spec _ _ _ _).mono ?_; rintro e w1 ⟨rfl, hy⟩) | (go_at_call 134; refine (isPoint_spec _ _ _).mono ?_; rintro e w1 ⟨rfl, hy⟩)); go_wp2_with fail; (refine hK.out _ _ (by first | assumption | exact Ext.trans (by assumption) hy | exact Res.ext (by assumption) hy | exact ResB.ext (by assumption) hy | exact ResC.ext (by assumption) hy | (go_split_ands; (repeat' apply And.intro) <;> exact Ext.cellOf hy (by assumption))) (fun hHeld => ?_)); clear hK K; (try simp only [Act.put, Ord.a, Ord.b, Ord.c]))
        refine Ord.K 3 28 ?_
        refine Ord.K 4 29 ?_
        refine Ord.K 5 30 ?_
        (refine wpAnyH_ready (rs := [6]) (by kernel_rfl) (by simp) ?_; refine AllReadyH.cons rfl (fun K hK => ?_) AllReadyH.nil; go_simp; (first | (go_at_call 82; refine (in_any _ _ _ _).mono ?_; rintro e w1 ⟨rfl, rfl⟩) | (go_at_call 144; refine (point_spec _ _ _ _).mono ?_; rintro e w1 ⟨rfl, hy⟩) | (go_at_call 134; refine (isPoint_spec _ _ _).mono ?_; rintro e w1 ⟨rfl, hy⟩)); go_wp2_with fail; (refine hK.out _ _ (by first | assumption | exact Ext.trans (by assumption) hy | exact Res.ext (by assumption) hy | exact ResB.ext (by assumption) hy | exact ResC.ext (by assumption) hy | (go_split_ands; (repeat' apply And.intro) <;> exact Ext.cellOf hy (by assumption))) (fun hHeld => ?_)); clear hK K; (try simp only [Act.put, Ord.a, Ord.b, Ord.c]))
        (refine wpAnyH_ready (rs := [7]) (by kernel_rfl) (by simp) ?_; refine AllReadyH.cons rfl (fun K hK => ?_) AllReadyH.nil; go_simp; (first | (go_at_call 82; refine (in_any _ _ _ _).mono ?_; rintro e w1 ⟨rfl, rfl⟩) | (go_at_call 144; refine (point_spec _ _ _ _).mono ?_; rintro e w1 ⟨rfl, hy⟩) | (go_at_call 134; refine (isPoint_spec _ _ _).mono ?_; rintro e w1 ⟨rfl, hy⟩)); go_wp2_with fail; (refine hK.out _ _ (by first | assumption | exact Ext.trans (by assumption) hy | exact Res.ext (by assumption) hy | exact ResB.ext (by assumption) hy | exact ResC.ext (by assumption) hy | (go_split_ands; (repeat' apply And.intro) <;> exact Ext.cellOf hy (by assumption))) (fun hHeld => ?_)); clear hK K; (try simp only [Act.put, Ord.a, Ord.b, Ord.c]))
        refine Ord.K 8 33 ?_
        refine Ord.K 9 34 ?_
        refine Ord.K 10 35 ?_
        (refine Ord.s 11 36 ?_ ?_; rfl; (try simp only [Act.put, Ord.a, Ord.b, Ord.c]))
        (refine Ord.s 12 37 ?_ ?_; rfl; (try simp only [Act.put, Ord.a, Ord.b, Ord.c]))
        (refine Ord.s 13 38 ?_ ?_; rfl; (try simp only [Act.put, Ord.a, Ord.b, Ord.c]))
        (refine Ord.s 14 39 ?_ ?_; rfl; (try simp only [Act.put, Ord.a, Ord.b, Ord.c]))
        (refine Ord.s 15 40 ?_ ?_; rfl; (try simp only [Act.put, Ord.a, Ord.b, Ord.c]))
        (refine Ord.s 16 41 ?_ ?_; rfl; (try simp only [Act.put, Ord.a, Ord.b, Ord.c]))
        (refine Ord.s 17 42 ?_ ?_; rfl; (try simp only [Act.put, Ord.a, Ord.b, Ord.c]))
        (refine Ord.s 18 43 ?_ ?_; rfl; (try simp only [Act.put, Ord.a, Ord.b, Ord.c]))
        (refine Ord.s 19 44 ?_ ?_; rfl; (try simp only [Act.put, Ord.a, Ord.b, Ord.c]))
        (refine Ord.s 20 45 ?_ ?_; rfl; (try simp only [Act.put, Ord.a, Ord.b, Ord.c]))
        (refine Ord.s 21 46 ?_ ?_; rfl; (try simp only [Act.put, Ord.a, Ord.b, Ord.c]))
        (refine Ord.s 22 47 ?_ ?_; rfl; (try simp only [Act.put, Ord.a, Ord.b, Ord.c]))
        (refine Ord.s 23 48 ?_ ?_; rfl; (try simp only [Act.put, Ord.a, Ord.b, Ord.c]))
        (refine Ord.s 24 49 ?_ ?_; rfl; (try simp only [Act.put, Ord.a, Ord.b, Ord.c]))
        refine Ord.K 25 50 ?_
        refine wpAnyH_done (by kernel_rfl) ?_ _
        go_wp2
        go_ret
        exact ⟨ret_bool H.out, ((Ext.refl _).alloc _).trans (HX.out.trans (by repeat (first | exact Ext.refl _ | assumption | apply Ext.alloc | apply Ext.drew | (refine Ext.trans ?_ (by assumption)) | (refine Ext.setNew ?_ (by simp <;> omega) _))))⟩
      have HV := Lib.hid (fxB_both hv hq)
      by_cases hk0 : k = 0
      · have H := Lib.hid (show okB fs k = true by have := HV.out; rw [hk0] at this ⊢; exact okB_zero this)
        have HK := Lib.hid hk0
        have z0 : decide (0 < k) = false := decide_eq_false (by omega)
        have z1 : decide ((0 : Int) < (k : Int)) = false := decide_eq_false (by omega)
        clear hk0
        go_wp2_with fail
        refine wp_region_held_drew (S := (fun w' => w'.cell? ⟨wr.heap.size, 0, none⟩ = some (.int .i64 (fx fs k).t) ∧ w'.cell? ⟨wr.heap.size, 1, none⟩ = some (.int .i64 (fx fs k).x) ∧ w'.cell? ⟨wr.heap.size, 2, none⟩ = some (.int .i64 (fx fs k).y) ∧ w'.cell? ⟨w.heap.size, 0, none⟩ = some (.slice (some ⟨b, off, none⟩) fs.length cap))) (by kernel_rfl) (by (try dsimp only); first | go_keep | exact (Ext.refl _).drew | exact Res.new2.drew | exact Res.new4.drew | exact ResB.drew (by assumption) | exact ResC.drew (by assumption) | assumption | exact Ext.drew (by assumption) | exact Res.drew (by assumption)) (fun hHeld => ?_)
        refine Ord.K 0 25 ?_
        refine Ord.K 1 26 ?_
        (refine wpAnyH_ready (rs := [2]) (by kernel_rfl) (by simp) ?_; refine AllReadyH.cons rfl (fun K hK => ?_) AllReadyH.nil; go_simp; (first | (go_at_call 82; refine (in_any _ _ _ _).mono ?_; rintro e w1 ⟨rfl, rfl⟩) | (go_at_call 144; refine (point_spec _ _ _ _).mono ?_; rintro e w1 ⟨rfl, hy⟩) | (go_at_call 134; refine (isPoint_spec _ _ _).mono ?_; rintro e w1 ⟨rfl, hy⟩)); go_wp2_with fail; (refine hK.out _ _ (by first | assumption | exact Ext.trans (by assumption) hy | exact Res.ext (by assumption) hy | exact ResB.ext (by assumption) hy | exact ResC.ext (by assumption) hy | (go_split_ands; (repeat' apply And.intro) <;> exact Ext.cellOf hy (by assumption))) (fun hHeld => ?_)); clear hK K; (try simp only [Act.put, Ord.a, Ord.b, Ord.c]))
        refine Ord.K 3 28 ?_
        refine Ord.K 4 29 ?_
        refine Ord.K 5 30 ?_
        (refine wpAnyH_ready (rs := [6]) (by kernel_rfl) (by simp) ?_; refine AllReadyH.cons rfl (fun K hK => ?_) AllReadyH.nil; go_simp; (first | (go_at_call 82; refine (in_any _ _ _ _).mono ?_; rintro e w1 ⟨rfl, rfl⟩) | (go_at_call 144; refine (point_spec _ _ _ _).mono ?_; rintro e w1 ⟨rfl, hy⟩) | (go_at_call 134; refine (isPoint_spec _ _ _).mono ?_; rintro e w1 ⟨rfl, hy⟩)); go_wp2_with fail; (refine hK.out _ _ (by first | assumption | exact Ext.trans (by assumption) hy | exact Res.ext (by assumption) hy | exact ResB.ext (by assumption) hy | exact ResC.ext (by assumption) hy | (go_split_ands; (repeat' apply And.intro) <;> exact Ext.cellOf hy (by assumption))) (fun hHeld => ?_)); clear hK K; (try simp only [Act.put, Ord.a, Ord.b, Ord.c]))
        (refine wpAnyH_ready (rs := [7]) (by kernel_rfl) (by simp) ?_; refine AllReadyH.cons rfl (fun K hK => ?_) AllReadyH.nil; go_simp; (first | (go_at_call 82; refine (in_any _ _ _ _).mono ?_; rintro e w1 ⟨rfl, rfl⟩) | (go_at_call 144; refine (point_spec _ _ _ _).mono ?_; rintro e w1 ⟨rfl, hy⟩) | (go_at_call 134; refine (isPoint_spec _ _ _).mono ?_; rintro e w1 ⟨rfl, hy⟩)); go_wp2_with fail; (refine hK.out _ _ (by first | assumption | exact Ext.trans (by assumption) hy | exact Res.ext (by assumption) hy | exact ResB.ext (by assumption) hy | exact ResC.ext (by assumption) hy | (go_split_ands; (repeat' apply And.intro) <;> exact Ext.cellOf hy (by assumption))) (fun hHeld => ?_)); clear hK K; (try simp only [Act.put, Ord.a, Ord.b, Ord.c]))
        refine Ord.K 8 33 ?_
        refine Ord.K 9 34 ?_
        refine Ord.K 10 35 ?_
        refine Ord.K 11 36 ?_
        refine Ord.K 12 37 ?_
        refine Ord.K 13 38 ?_
        (refine Ord.s 14 39 ?_ ?_; rfl; (try simp only [Act.put, Ord.a, Ord.b, Ord.c]))
        (refine Ord.s 15 40 ?_ ?_; rfl; (try simp only [Act.put, Ord.a, Ord.b, Ord.c]))
        (refine Ord.s 16 41 ?_ ?_; rfl; (try simp only [Act.put, Ord.a, Ord.b, Ord.c]))
        (refine Ord.s 17 42 ?_ ?_; rfl; (try simp only [Act.put, Ord.a, Ord.b, Ord.c]))
        (refine Ord.s 18 43 ?_ ?_; rfl; (try simp only [Act.put, Ord.a, Ord.b, Ord.c]))
        (refine Ord.s 19 44 ?_ ?_; rfl; (try simp only [Act.put, Ord.a, Ord.b, Ord.c]))
        (refine Ord.s 20 45 ?_ ?_; rfl; (try simp only [Act.put, Ord.a, Ord.b, Ord.c]))
        (refine Ord.s 21 46 ?_ ?_; rfl; (try simp only [Act.put, Ord.a, Ord.b, Ord.c]))
        (refine Ord.s 22 47 ?_ ?_; rfl; (try simp only [Act.put, Ord.a, Ord.b, Ord.c]))
        (refine Ord.s 23 48 ?_ ?_; rfl; (try simp only [Act.put, Ord.a, Ord.b, Ord.c]))
        refine Ord.K 24 49 ?_
        refine Ord.K 25 50 ?_
        refine wpAnyH_done (by kernel_rfl) ?_ _
        go_wp2
        go_roundw
        case rel => exact RelV.step HD.out hk1 H.out HX.out (by repeat (first | exact Ext.refl _ | assumption | apply Ext.alloc | apply Ext.drew | (refine Ext.trans ?_ (by assumption)) | (refine Ext.setNew ?_ (by simp <;> omega) _)))
        case measure => simp [intOf]; omega
      · have HOK := Lib.hid (show okB fs k = decide ((fx fs (k - 1)).t < (fx fs k).t) by have := HV.out; obtain ⟨j, rfl⟩ : ∃ j, k = j + 1 := ⟨k - 1, by omega⟩; exact okB_succ this)
        obtain ⟨p0, _, _⟩ := ((HB.out (k - 1) (by omega)).ext ((Ext.refl _).alloc _)).ext HX.out
        have z0 : decide (0 < k) = true := decide_eq_true (by omega)
        have z1 : decide ((0 : Int) < (k : Int)) = true := decide_eq_true (by omega)
        have t2 : (0 : Int) ≤ (k : Int) - 1 := by omega
        have t3 : (1 : Int) ≤ (k : Int) := by omega
        have t4 : (k : Int) - 1 < (fs.length : Int) := by omega
        have T0 : IntKind.i64.wrap ((k : Int) - 1) = (k : Int) - 1 := IntWalk.i64_in _ (by omega)
        have T1 : ((k : Int) - 1).toNat = k - 1 := by omega
        by_cases hlt : (fx fs (k - 1)).t < (fx fs k).t
        · have H := Lib.hid (show okB fs k = true by rw [HOK.out]; exact decide_eq_true hlt)
          have z2 : decide ((fx fs k).t ≤ (fx fs (k - 1)).t) = false := decide_eq_false (by omega)
          go_wp2_with fail
          refine wp_region_held_drew (S := (fun w' => w'.cell? ⟨wr.heap.size, 0, none⟩ = some (.int .i64 (fx fs k).t) ∧ w'.cell? ⟨wr.heap.size, 1, none⟩ = some (.int .i64 (fx fs k).x) ∧ w'.cell? ⟨wr.heap.size, 2, none⟩ = some (.int .i64 (fx fs k).y) ∧ w'.cell? ⟨w.heap.size, 0, none⟩ = some (.slice (some ⟨b, off, none⟩) fs.length cap) ∧ w'.cell? ⟨b, off + (k - 1) * 3, none⟩ = some (.int .i64 (fx fs (k - 1)).t))) (by kernel_rfl) (by (try dsimp only); first | go_keep | exact (Ext.refl _).drew | exact Res.new2.drew | exact Res.new4.drew | exact ResB.drew (by assumption) | exact ResC.drew (by assumption) | assumption | exact Ext.drew (by assumption) | exact Res.drew (by assumption)) (fun hHeld => ?_)
          refine Ord.K 0 25 ?_
          refine Ord.K 1 26 ?_
          (refine wpAnyH_ready (rs := [2]) (by kernel_rfl) (by simp) ?_; refine AllReadyH.cons rfl (fun K hK => ?_) AllReadyH.nil; go_simp; (first | (go_at_call 82; refine (in_any _ _ _ _).mono ?_; rintro e w1 ⟨rfl, rfl⟩) | (go_at_call 144; refine (point_spec _ _ _ _).mono ?_; rintro e w1 ⟨rfl, hy⟩) | (go_at_call 134; refine (isPoint_spec _ _ _).mono ?_; rintro e w1 ⟨rfl, hy⟩)); go_wp2_with fail; (refine hK.out _ _ (by first | assumption | exact Ext.trans (by assumption) hy | exact Res.ext (by assumption) hy | exact ResB.ext (by assumption) hy | exact ResC.ext (by assumption) hy | (go_split_ands; (repeat' apply And.intro) <;> exact Ext.cellOf hy (by assumption))) (fun hHeld => ?_)); clear hK K; (try simp only [Act.put, Ord.a, Ord.b, Ord.c]))
          refine Ord.K 3 28 ?_
          refine Ord.K 4 29 ?_
          refine Ord.K 5 30 ?_
          (refine wpAnyH_ready (rs := [6]) (by kernel_rfl) (by simp) ?_; refine AllReadyH.cons rfl (fun K hK => ?_) AllReadyH.nil; go_simp; (first | (go_at_call 82; refine (in_any _ _ _ _).mono ?_; rintro e w1 ⟨rfl, rfl⟩) | (go_at_call 144; refine (point_spec _ _ _ _).mono ?_; rintro e w1 ⟨rfl, hy⟩) | (go_at_call 134; refine (isPoint_spec _ _ _).mono ?_; rintro e w1 ⟨rfl, hy⟩)); go_wp2_with fail; (refine hK.out _ _ (by first | assumption | exact Ext.trans (by assumption) hy | exact Res.ext (by assumption) hy | exact ResB.ext (by assumption) hy | exact ResC.ext (by assumption) hy | (go_split_ands; (repeat' apply And.intro) <;> exact Ext.cellOf hy (by assumption))) (fun hHeld => ?_)); clear hK K; (try simp only [Act.put, Ord.a, Ord.b, Ord.c]))
          (refine wpAnyH_ready (rs := [7]) (by kernel_rfl) (by simp) ?_; refine AllReadyH.cons rfl (fun K hK => ?_) AllReadyH.nil; go_simp; (first | (go_at_call 82; refine (in_any _ _ _ _).mono ?_; rintro e w1 ⟨rfl, rfl⟩) | (go_at_call 144; refine (point_spec _ _ _ _).mono ?_; rintro e w1 ⟨rfl, hy⟩) | (go_at_call 134; refine (isPoint_spec _ _ _).mono ?_; rintro e w1 ⟨rfl, hy⟩)); go_wp2_with fail; (refine hK.out _ _ (by first | assumption | exact Ext.trans (by assumption) hy | exact Res.ext (by assumption) hy | exact ResB.ext (by assumption) hy | exact ResC.ext (by assumption) hy | (go_split_ands; (repeat' apply And.intro) <;> exact Ext.cellOf hy (by assumption))) (fun hHeld => ?_)); clear hK K; (try simp only [Act.put, Ord.a, Ord.b, Ord.c]))
          refine Ord.K 8 33 ?_
          refine Ord.K 9 34 ?_
          refine Ord.K 10 35 ?_
          refine Ord.K 11 36 ?_
          refine Ord.K 12 37 ?_
          refine Ord.K 13 38 ?_
          refine Ord.K 14 39 ?_
          refine Ord.K 15 40 ?_
          refine Ord.K 16 41 ?_
          refine Ord.K 17 42 ?_
          refine Ord.K 18 43 ?_
          refine Ord.K 19 44 ?_
          refine Ord.K 20 45 ?_
          refine Ord.K 21 46 ?_
          refine Ord.K 22 47 ?_
          refine Ord.K 23 48 ?_
          refine Ord.K 24 49 ?_
          refine Ord.K 25 50 ?_
          refine wpAnyH_done (by kernel_rfl) ?_ _
          clear T0 T1
          go_wp2
          go_roundw
          case rel => exact RelV.step HD.out hk1 H.out HX.out (by repeat (first | exact Ext.refl _ | assumption | apply Ext.alloc | apply Ext.drew | (refine Ext.trans ?_ (by assumption)) | (refine Ext.setNew ?_ (by simp <;> omega) _)))
          case measure => simp [intOf]; omega
        · have H := Lib.hid (trB_no hk1 (show okB fs k = false by rw [HOK.out]; exact decide_eq_false hlt))
          have z2 : decide ((fx fs k).t ≤ (fx fs (k - 1)).t) = true := decide_eq_true (by omega)
          go_wp2_with fail
          refine wp_region_held_drew (S := (fun w' => w'.cell? ⟨wr.heap.size, 0, none⟩ = some (.int .i64 (fx fs k).t) ∧ w'.cell? ⟨wr.heap.size, 1, none⟩ = some (.int .i64 (fx fs k).x) ∧ w'.cell? ⟨wr.heap.size, 2, none⟩ = some (.int .i64 (fx fs k).y) ∧ w'.cell? ⟨w.heap.size, 0, none⟩ = some (.slice (some ⟨b, off, none⟩) fs.length cap) ∧ w'.cell? ⟨b, off + (k - 1) * 3, none⟩ = some (.int .i64 (fx fs (k - 1)).t))) (by kernel_rfl) (by (try dsimp only); first | go_keep | exact (Ext.refl _).drew | exact Res.new2.drew | exact Res.new4.drew | exact ResB.drew (by assumption) | exact ResC.drew (by assumption) | assumption | exact Ext.drew (by assumption) | exact Res.drew (by assumption)) (fun hHeld => ?_)
          refine Ord.K 0 25 ?_
          refine Ord.K 1 26 ?_
          (refine wpAnyH_ready (rs := [2]) (by kernel_rfl) (by simp) ?_; refine AllReadyH.cons rfl (fun K hK => ?_) AllReadyH.nil; go_simp; (first | (go_at_call 82; refine (in_any _ _ _ _).mono ?_; rintro e w1 ⟨rfl, rfl⟩) | (go_at_call 144; refine (point_spec _ _ _ _).mono ?_; rintro e w1 ⟨rfl, hy⟩) | (go_at_call 134; refine (isPoint_spec _ _ _).mono ?_; rintro e w1 ⟨rfl, hy⟩)); go_wp2_with fail; (refine hK.out _ _ (by first | assumption | exact Ext.trans (by assumption) hy | exact Res.ext (by assumption) hy | exact ResB.ext (by assumption) hy | exact ResC.ext (by assumption) hy | (go_split_ands; (repeat' apply And.intro) <;> exact Ext.cellOf hy (by assumption))) (fun hHeld => ?_)); clear hK K; (try simp only [Act.put, Ord.a, Ord.b, Ord.c]))
          refine Ord.K 3 28 ?_
          refine Ord.K 4 29 ?_
          refine Ord.K 5 30 ?_
          (refine wpAnyH_ready (rs := [6]) (by kernel_rfl) (by simp) ?_; refine AllReadyH.cons rfl (fun K hK => ?_) AllReadyH.nil; go_simp; (first | (go_at_call 82; refine (in_any _ _ _ _).mono ?_; rintro e w1 ⟨rfl, rfl⟩) | (go_at_call 144; refine (point_spec _ _ _ _).mono ?_; rintro e w1 ⟨rfl, hy⟩) | (go_at_call 134; refine (isPoint_spec _ _ _).mono ?_; rintro e w1 ⟨rfl, hy⟩)); go_wp2_with fail; (refine hK.out _ _ (by first | assumption | exact Ext.trans (by assumption) hy | exact Res.ext (by assumption) hy | exact ResB.ext (by assumption) hy | exact ResC.ext (by assumption) hy | (go_split_ands; (repeat' apply And.intro) <;> exact Ext.cellOf hy (by assumption))) (fun hHeld => ?_)); clear hK K; (try simp only [Act.put, Ord.a, Ord.b, Ord.c]))
          (refine wpAnyH_ready (rs := [7]) (by kernel_rfl) (by simp) ?_; refine AllReadyH.cons rfl (fun K hK => ?_) AllReadyH.nil; go_simp; (first | (go_at_call 82; refine (in_any _ _ _ _).mono ?_; rintro e w1 ⟨rfl, rfl⟩) | (go_at_call 144; refine (point_spec _ _ _ _).mono ?_; rintro e w1 ⟨rfl, hy⟩) | (go_at_call 134; refine (isPoint_spec _ _ _).mono ?_; rintro e w1 ⟨rfl, hy⟩)); go_wp2_with fail; (refine hK.out _ _ (by first | assumption | exact Ext.trans (by assumption) hy | exact Res.ext (by assumption) hy | exact ResB.ext (by assumption) hy | exact ResC.ext (by assumption) hy | (go_split_ands; (repeat' apply And.intro) <;> exact Ext.cellOf hy (by assumption))) (fun hHeld => ?_)); clear hK K; (try simp only [Act.put, Ord.a, Ord.b, Ord.c]))
          refine Ord.K 8 33 ?_
          refine Ord.K 9 34 ?_
          refine Ord.K 10 35 ?_
          refine Ord.K 11 36 ?_
          refine Ord.K 12 37 ?_
          refine Ord.K 13 38 ?_
          refine Ord.K 14 39 ?_
          refine Ord.K 15 40 ?_
          refine Ord.K 16 41 ?_
          refine Ord.K 17 42 ?_
          refine Ord.K 18 43 ?_
          refine Ord.K 19 44 ?_
          refine Ord.K 20 45 ?_
          refine Ord.K 21 46 ?_
          refine Ord.K 22 47 ?_
          refine Ord.K 23 48 ?_
          refine Ord.K 24 49 ?_
          refine Ord.K 25 50 ?_
          refine wpAnyH_done (by kernel_rfl) ?_ _
          clear T0 T1
          go_wp2
          go_ret
          exact ⟨ret_bool H.out, ((Ext.refl _).alloc _).trans (HX.out.trans (by repeat (first | exact Ext.refl _ | assumption | apply Ext.alloc | apply Ext.drew | (refine Ext.trans ?_ (by assumption)) | (refine Ext.setNew ?_ (by simp <;> omega) _))))⟩
    · obtain rfl : k = fs.length := by omega
      have H := Lib.hid (trB_all (by omega) (by omega) HD.out)
      go_wp2
      go_ret
      exact ⟨ret_bool H.out, ((Ext.refl _).alloc _).trans HX.out⟩
end Go.Proofs.YtmlojndkpnhalaaGreat.Trk
namespace Go.Proofs.YtmlojndkpnhalaaGreat.Crs
open Go.ChangeShapes Go.WideShapes Go.ChangeAt Go.RowKit Go.PlainAid
open Go.Proofs.YtmlojndkpnhalaaGreat.Num Go.Proofs.YtmlojndkpnhalaaGreat.Kit Go.Proofs.YtmlojndkpnhalaaGreat.Pts
open Go.Proofs.YtmlojndkpnhalaaGreat.Trk (F3 Fxs Tr trB)
set_option linter.unusedVariables false
set_option linter.unusedSimpArgs false
theorem ret_vi {v : Value} {a b : Int} (h : b = a) : Ending.returned (.tuple #[v, .int .i64 a]) = .returned (.tuple #[v, .int .i64 b]) := by rw [h]
def RelXB (w : World) (p : Nat → Bool) (n : Nat) (i : Value) (wr : World) : Prop := ∃ k : Nat, i = .int .i64 k ∧ k ≤ n ∧ (∀ j, j < k → p j = true) ∧ Ext w wr
structure T1 where
  a : Option Addr
  c : Nat
  fs : List F3
abbrev TV (t : T1) : Value := .slice t.a t.fs.length t.c
def tk (ts : List T1) (i : Nat) : T1 := ts.getD i ⟨none, 0, []⟩
def Tks (w : World) (a : Option Addr) (ts : List T1) : Prop :=
  ts.length ≤ maxLen ∧ (∀ i, i < ts.length → Fxs w (tk ts i).a (tk ts i).fs) ∧ (ts = [] ∨ ∃ b off, a = some ⟨b, off, none⟩ ∧ ∀ i, i < ts.length → w.cell? ⟨b, off + i, none⟩ = some (TV (tk ts i)))
theorem Tks.ext {w w' : World} {a : Option Addr} {ts : List T1} (h : Tks w a ts) (k : Ext w w') : Tks w' a ts := by
  refine ⟨h.1, fun i hi => (h.2.1 i hi).ext k, ?_⟩
  rcases h.2.2 with h | ⟨b, off, ha, h⟩
  · exact .inl h
  · exact .inr ⟨b, off, ha, fun i hi => k.cellOf (h i hi)⟩
theorem Tks.row {w : World} {a : Option Addr} {ts : List T1} (h : Tks w a ts) (h0 : 0 < ts.length) : ∃ b off, a = some ⟨b, off, none⟩ ∧ ∀ i, i < ts.length → w.cell? ⟨b, off + i, none⟩ = some (TV (tk ts i)) := by
  rcases h.2.2 with e | e
  · rw [e] at h0; simp at h0
  · exact e
theorem Tks.one {w : World} {b : Nat} {t : T1} (h : w.cell? ⟨b, 0, none⟩ = some (TV t)) (hf : Fxs w t.a t.fs) : Tks w (some ⟨b, 0, none⟩) [t] := by
  refine ⟨by unfold maxLen; simp, fun i hi => ?_, .inr ⟨b, 0, rfl, fun i hi => ?_⟩⟩
  · obtain rfl : i = 0 := by simpa using hi
    exact hf
  · obtain rfl : i = 0 := by simpa using hi
    exact h
def tkB (ts : List T1) (i : Nat) : Bool := trB (tk ts i).fs
def tsB (ts : List T1) : Bool := (List.range ts.length).all (tkB ts)
theorem tsB_one (t : T1) : tsB [t] = trB t.fs := by
  simp [tsB, List.range_succ, tkB, tk]
theorem tsB_no {ts : List T1} {j : Nat} (hj : j < ts.length) (h : tkB ts j = false) : tsB ts = false :=
  List.all_eq_false.2 ⟨j, by simpa using hj, by simp [h]⟩
theorem tsB_all {ts : List T1} (h : ∀ j, j < ts.length → tkB ts j = true) : tsB ts = true :=
  List.all_eq_true.2 fun j hj => h j (by simpa using hj)
set_option maxHeartbeats 1000000 in
theorem areValid_any (a : Option Addr) (cap : Nat) (ts : List T1) (w : World) (hf : Tks w a ts) :
    Calls Tryz.prog 118 #[.slice a ts.length cap] w fun e w' => e = .returned (.bool (tsB ts)) ∧ Ext w w' := by
  have hm := hf.1
  unfold maxLen at hm
  have HF := Lib.hid hf
  clear hf
  go_enter Tryz.func118, Tryz.ntmps118
  go_wp2
  go_loopw [7] (fun i wr => RelXB w (tkB ts) ts.length i wr) (fun i _ => ts.length - (intOf i).toNat)
  case atStart => exact ⟨0, rfl, Nat.zero_le _, fun j hj => absurd hj (by omega), Ext.refl _⟩
  case round =>
    obtain ⟨j, rfl, hj, hd, hx⟩ := hrel
    have HD := Lib.hid hd
    have HX := Lib.hid hx
    clear hd hx
    by_cases hj1 : j < ts.length
    · obtain ⟨b, off, rfl, hb⟩ := HF.out.row (by omega)
      have c0 := HX.out.cellOf (hb j hj1)
      have i0 : (0 : Int) ≤ (j : Int) := by omega
      have i1 : (j : Int) < (ts.length : Int) := by omega
      have T7 : IntKind.i64.wrap ((j : Int) + 1) = (j : Int) + 1 := IntWalk.i64_in _ (by omega)
      have hc := Lib.hid (fun w' (h : Ext wr w') => Trk.trackValid_any (tk ts j).a (tk ts j).c (tk ts j).fs w' (((HF.out.2.1 j hj1).ext HX.out).ext h))
      clear hb
      cases h : tkB ts j
      · have H := Lib.hid (tsB_no hj1 h)
        rw [show trB (tk ts j).fs = false from h] at hc
        clear h
        go_wp2_with fail
        refine (hc.out _ ((Ext.refl wr).alloc _)).mono ?_
        rintro e w1 ⟨rfl, hy⟩
        go_wp2
        go_ret
        exact ⟨ret_bool H.out, HX.out.trans (((Ext.refl wr).alloc _).trans hy)⟩
      · have H := Lib.hid h
        rw [show trB (tk ts j).fs = true from h] at hc
        clear h
        go_wp2_with fail
        refine (hc.out _ ((Ext.refl wr).alloc _)).mono ?_
        rintro e w1 ⟨rfl, hy⟩
        have HY := Lib.hid (HX.out.trans (((Ext.refl wr).alloc _).trans hy))
        clear hy
        go_wp2
        go_roundw
        case rel => exact ⟨j + 1, by go_num, by omega, fun x hx => by rcases Nat.lt_or_ge x j with g | g; exact HD.out x g; exact (show x = j by omega) ▸ H.out, HY.out⟩
        case measure => simp [intOf]; omega
    · obtain rfl : j = ts.length := by omega
      have H := Lib.hid (tsB_all HD.out)
      go_wp2
      go_ret
      exact ⟨ret_bool H.out, HX.out⟩
end Go.Proofs.YtmlojndkpnhalaaGreat.Crs
