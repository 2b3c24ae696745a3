import Derived.Test.YtknelhceaoblhaaGreatMPts
import Derived.Test.YtknelhceaoblhaaGreatOrd
import Derived.IntWalk
import Derived.PlainAid
import Derived.Deep.LoopGhost
import Derived.Laws.EntriesVeiled
namespace Go.Proofs.YtknelhceaoblhaaGreat.Trk
open Go.ChangeShapes Go.WideShapes Go.ChangeAt Go.RowKit
open Go.Proofs.YtknelhceaoblhaaGreat.Num Go.Proofs.YtknelhceaoblhaaGreat.Kit Go.Proofs.YtknelhceaoblhaaGreat.Pts
set_option linter.unusedVariables false
set_option linter.unusedSimpArgs false
def tmB (n : Int) : Bool := inB n 0 1000000000
def fxB (f : F3) : Bool := tmB f.t && ptB f.x f.y
def okB (fs : List F3) (k : Nat) : Bool := fxB (fx fs k) && (decide (k = 0) || decide ((fx fs (k - 1)).t < (fx fs k).t))
def trB (fs : List F3) : Bool := decide (2 ≤ fs.length) && (decide (fs.length ≤ 40) && (List.range fs.length).all (okB fs))
theorem trB_short {fs : List F3} (h : fs.length < 2) : trB fs = false := by unfold trB; rw [decide_eq_false (by omega)]; rfl
theorem trB_long {fs : List F3} (h : 40 < fs.length) : trB fs = false := by unfold trB; rw [decide_eq_false (p := fs.length ≤ 40) (by omega)]; simp
theorem trB_no {fs : List F3} {k : Nat} (hk : k < fs.length) (h : okB fs k = false) : trB fs = false := by
  unfold trB
  rw [show (List.range fs.length).all (okB fs) = false from List.all_eq_false.2 ⟨k, by simpa using hk, by simp [h]⟩]; simp
theorem trB_all {fs : List F3} (h2 : 2 ≤ fs.length) (h40 : fs.length ≤ 40) (h : ∀ k, k < fs.length → okB fs k = true) : trB fs = true := by
  unfold trB
  rw [decide_eq_true h2, decide_eq_true h40, show (List.range fs.length).all (okB fs) = true from List.all_eq_true.2 fun k hk => h k (by simpa using hk)]; rfl
theorem trB_yes {fs : List F3} (h : trB fs = true) : (2 ≤ fs.length ∧ fs.length ≤ 40) ∧ ∀ k, k < fs.length → okB fs k = true := by
  unfold trB at h
  simp only [Bool.and_eq_true, decide_eq_true_eq] at h
  exact ⟨⟨h.1, h.2.1⟩, fun k hk => List.all_eq_true.1 h.2.2 k (by simpa using hk)⟩
theorem isTime_any (n : Int) (w : World) : Calls Tryz.prog 142 #[.int .i64 n] w fun e w' => e = .returned (.bool (tmB n)) ∧ w = w' := by
  by_cases h1 : 0 ≤ n
  · by_cases h2 : n ≤ 1000000000
    · have H := Lib.hid (show tmB n = true from inB_yes h1 h2)
      go_enter Tryz.func142, Tryz.ntmps142
      go_wp2
      go_ret
      exact ⟨ret_bool H.out, rfl⟩
    · have H := Lib.hid (show tmB n = false from inB_no (fun h => h2 h.2))
      go_enter Tryz.func142, Tryz.ntmps142
      go_wp2
      go_ret
      exact ⟨ret_bool H.out, rfl⟩
  · have H := Lib.hid (show tmB n = false from inB_no (fun h => h1 h.1))
    go_enter Tryz.func142, Tryz.ntmps142
    go_wp2
    go_ret
    exact ⟨ret_bool H.out, rfl⟩
theorem point_impl (t x y : Int) (w : World) : Calls Tryz.prog 143 #[Fx t x y] w fun e w' => e = .returned (Pt x y) ∧ Ext w w' := by
  go_enter Tryz.func143, Tryz.ntmps143
  go_wp2
  exact bodyPost_ret (v := Pt x y) (by simp [results, Tryz.results143, go_sem]) rfl ⟨rfl, (by repeat (first | exact Ext.refl _ | assumption | apply Ext.alloc | apply Ext.drew | (refine Ext.trans ?_ (by assumption)) | (refine Ext.setNew ?_ (by simp <;> omega) _)))⟩
theorem point_spec (t x y : Int) (w : World) : Calls Tryz.prog 78 #[Fx t x y] w fun e w' => e = .returned (Pt x y) ∧ Ext w w' := by
  go_enter Tryz.func78, Tryz.ntmps78
  go_wp2
  exact bodyPost_ret (v := Pt x y) (by simp [results, Tryz.results78, go_sem]) rfl ⟨rfl, (by repeat (first | exact Ext.refl _ | assumption | apply Ext.alloc | apply Ext.drew | (refine Ext.trans ?_ (by assumption)) | (refine Ext.setNew ?_ (by simp <;> omega) _)))⟩
theorem fixValid_any (t x y : Int) (w : World) : Calls Tryz.prog 100 #[Fx t x y] w fun e w' => e = .returned (.bool (fxB ⟨t, x, y⟩)) ∧ Ext w w' := by
  cases h : tmB t
  · have H := Lib.hid (show fxB ⟨t, x, y⟩ = false by unfold fxB; rw [h]; rfl)
    go_enter Tryz.func100, Tryz.ntmps100
    go_wp2_with (first | (go_at_call 142; refine (isTime_any _ _).mono ?_; rintro e w' ⟨rfl, rfl⟩))
    go_ret
    exact ⟨ret_bool H.out, (by repeat (first | exact Ext.refl _ | assumption | apply Ext.alloc | apply Ext.drew | (refine Ext.trans ?_ (by assumption)) | (refine Ext.setNew ?_ (by simp <;> omega) _)))⟩
  · have H := Lib.hid (show fxB ⟨t, x, y⟩ = ptB x y by unfold fxB; rw [h]; rfl)
    go_enter Tryz.func100, Tryz.ntmps100
    go_wp2_with (first | (go_at_call 142; refine (isTime_any _ _).mono ?_; rintro e w' ⟨rfl, rfl⟩) | (go_at_call 143; refine (point_impl _ _ _ _).mono ?_; rintro e w1 ⟨rfl, hx⟩) | (go_at_call 144; refine (isValid_any _ _ _).mono ?_; rintro e w2 ⟨rfl, hx2⟩))
    go_ret
    exact ⟨ret_bool H.out, (by repeat (first | exact Ext.refl _ | assumption | apply Ext.alloc | apply Ext.drew | (refine Ext.trans ?_ (by assumption)) | (refine Ext.setNew ?_ (by simp <;> omega) _)))⟩
theorem fixValid_of (f : F3) (w : World) : Calls Tryz.prog 100 #[Fx f.t f.x f.y] w fun e w' => e = .returned (.bool (fxB f)) ∧ Ext w w' := fixValid_any f.t f.x f.y w
def RelV (w : World) (fs : List F3) (i : Value) (wr : World) : Prop := ∃ k : Nat, i = .int .i64 k ∧ k ≤ fs.length ∧ (∀ j, j < k → okB fs j = true) ∧ Ext w wr
theorem okB_time {fs : List F3} {k : Nat} (h : fxB (fx fs k) = false) : okB fs k = false := by unfold okB; rw [h]; rfl
theorem okB_zero {fs : List F3} (h : fxB (fx fs 0) = true) : okB fs 0 = true := by unfold okB; rw [h]; rfl
theorem okB_succ {fs : List F3} {k : Nat} (h : fxB (fx fs (k + 1)) = true) : okB fs (k + 1) = decide ((fx fs k).t < (fx fs (k + 1)).t) := by unfold okB; rw [h]; simp
theorem RelV.step {w wr w' : World} {fs : List F3} {k : Nat} (hd : ∀ j, j < k → okB fs j = true) (hk : k < fs.length) (h : okB fs k = true) (hx : Ext w wr) (hy : Ext wr w') : RelV w fs (.int .i64 (k + 1)) w' :=
  ⟨k + 1, by go_num, by omega, fun j hj => by rcases Nat.lt_or_ge j k with g | g; exact hd j g; exact (show j = k by omega) ▸ h, hx.trans hy⟩
set_option maxHeartbeats 1000000 in
theorem trackValid_any (a : Option Addr) (cap : Nat) (fs : List F3) (w : World) (hf : Fxs w a fs) : Calls Tryz.prog 81 #[Tr (.slice a fs.length cap)] w fun e w' => e = .returned (.bool (trB fs)) ∧ Ext w w' := by
  have hm := hf.1
  unfold maxLen at hm
  have HF := Lib.hid hf
  clear hf
  by_cases h2 : fs.length < 2
  · have H := Lib.hid (trB_short h2)
    go_enter Tryz.func81, Tryz.ntmps81
    go_wp2
    go_ret
    exact ⟨ret_bool H.out, (by repeat (first | exact Ext.refl _ | assumption | apply Ext.alloc | apply Ext.drew | (refine Ext.trans ?_ (by assumption)) | (refine Ext.setNew ?_ (by simp <;> omega) _)))⟩
  by_cases h40 : 40 < fs.length
  · have H := Lib.hid (trB_long h40)
    go_enter Tryz.func81, Tryz.ntmps81
    go_wp2
    go_ret
    exact ⟨ret_bool H.out, (by repeat (first | exact Ext.refl _ | assumption | apply Ext.alloc | apply Ext.drew | (refine Ext.trans ?_ (by assumption)) | (refine Ext.setNew ?_ (by simp <;> omega) _)))⟩
  have q2 : decide ((fs.length : Int) < 2) = false := decide_eq_false (by omega)
  have q40 : decide (40 < (fs.length : Int)) = false := decide_eq_false (by omega)
  go_enter Tryz.func81, Tryz.ntmps81
  go_wp2
  go_loopw [18] (fun i wr => RelV (w.alloc (.cells #[.slice a fs.length cap] 30)) fs i wr) (fun i _ => fs.length - (intOf i).toNat)
  case atStart => exact ⟨0, rfl, Nat.zero_le _, fun j hj => absurd hj (by omega), Ext.refl _⟩
  case round =>
    obtain ⟨k, rfl, hk, hd, hx⟩ := hrel
    have HD := Lib.hid hd
    have HX := Lib.hid hx
    have bx : wr.cell? ⟨w.heap.size, 0, none⟩ = some (.slice a fs.length cap) := hx.cellOf (boxed 0 rfl rfl)
    clear hd hx
    by_cases hk1 : k < fs.length
    · rcases HF.out.2 with h0 | ⟨b, off, rfl, hb⟩
      · rw [h0] at hk1; simp at hk1
      have HB := Lib.hid hb
      clear hb
      obtain ⟨c0, c1, c2⟩ := ((HB.out k hk1).ext ((Ext.refl _).alloc _)).ext HX.out
      have i0 : (0 : Int) ≤ (k : Int) := by omega
      have i1 : (k : Int) < (fs.length : Int) := by omega
      cases hv : fxB (fx fs k)
      · have H := Lib.hid (trB_no hk1 (okB_time hv))
        go_wp2_with fail
        refine wp_region_held_drew (S := (fun w' => w'.cell? ⟨wr.heap.size, 0, none⟩ = some (.int .i64 (fx fs k).t) ∧ w'.cell? ⟨wr.heap.size, 1, none⟩ = some (.int .i64 (fx fs k).x) ∧ w'.cell? ⟨wr.heap.size, 2, none⟩ = some (.int .i64 (fx fs k).y) ∧ w'.cell? ⟨w.heap.size, 0, none⟩ = some (.slice (some ⟨b, off, none⟩) fs.length cap))) (by kernel_rfl) (by (try dsimp only); first | go_keep | exact (Ext.refl _).drew | exact Res.new2.drew | exact Res.new4.drew | exact ResB.drew (by assumption) | exact ResC.drew (by assumption) | assumption | exact Ext.drew (by assumption) | exact Res.drew (by assumption)) (fun hHeld => ?_)
        refine Ord.K 0 23 ?_
        (refine wpAnyH_ready (rs := [1]) (by kernel_rfl) (by simp) ?_; refine AllReadyH.cons rfl (fun K hK => ?_) AllReadyH.nil; go_simp; (go_at_call 100; refine (fixValid_of _ _).mono ?_; rintro e w1 ⟨rfl, hy⟩); go_wp2_with fail; (refine hK.out _ _ (by first | assumption | exact Ext.trans (by assumption) hy | exact Res.ext (by assumption) hy | exact ResB.ext (by assumption) hy | exact ResC.ext (by assumption) hy | (go_split_ands; (repeat' apply And.intro) <;> exact Ext.cellOf hy (by assumption))) (fun hHeld => ?_)); clear hK K; (try simp only [Act.put, Ord.a, Ord.b, Ord.c]))
        refine Ord.K 2 25 ?_
        refine Ord.K 3 26 ?_
        (refine Ord.s 4 27 ?_ ?_; rfl; (try simp only [Act.put, Ord.a, Ord.b, Ord.c]))
        (refine Ord.s 5 28 ?_ ?_; rfl; (try simp only [Act.put, Ord.a, Ord.b, Ord.c]))
        (refine Ord.s 6 29 ?_ ?_; rfl; (try simp only [Act.put, Ord.a, Ord.b, Ord.c]))
        (refine Ord.s 7 30 ?_ ?_; rfl; (try simp only [Act.put, Ord.a, Ord.b, Ord.c]))
        (refine Ord.s 8 31 ?_ ?_; rfl; (try simp only [Act.put, Ord.a, Ord.b, Ord.c]))
        (refine Ord.s 9 32 ?_ ?_; rfl; (try simp only [Act.put, Ord.a, Ord.b, Ord.c]))
        (refine Ord.s 10 33 ?_ ?_; rfl; (try simp only [Act.put, Ord.a, Ord.b, Ord.c]))
        (refine Ord.s 11 34 ?_ ?_; rfl; (try simp only [Act.put, Ord.a, Ord.b, Ord.c]))
        (refine Ord.s 12 35 ?_ ?_; rfl; (try simp only [Act.put, Ord.a, Ord.b, Ord.c]))
        (refine Ord.s 13 36 ?_ ?_; rfl; (try simp only [Act.put, Ord.a, Ord.b, Ord.c]))
        (refine Ord.s 14 37 ?_ ?_; rfl; (try simp only [Act.put, Ord.a, Ord.b, Ord.c]))
        (refine Ord.s 15 38 ?_ ?_; rfl; (try simp only [Act.put, Ord.a, Ord.b, Ord.c]))
        (refine Ord.s 16 39 ?_ ?_; rfl; (try simp only [Act.put, Ord.a, Ord.b, Ord.c]))
        (refine Ord.s 17 40 ?_ ?_; rfl; (try simp only [Act.put, Ord.a, Ord.b, Ord.c]))
        refine Ord.K 18 41 ?_
        refine wpAnyH_done (by kernel_rfl) ?_ _
        go_wp2
        go_ret
        exact ⟨ret_bool H.out, ((Ext.refl _).alloc _).trans (HX.out.trans (by repeat (first | exact Ext.refl _ | assumption | apply Ext.alloc | apply Ext.drew | (refine Ext.trans ?_ (by assumption)) | (refine Ext.setNew ?_ (by simp <;> omega) _))))⟩
      · by_cases hk0 : k = 0
        · have H := Lib.hid (show okB fs k = true by rw [hk0] at hv ⊢; exact okB_zero hv)
          have HK := Lib.hid hk0
          have z0 : decide (0 < k) = false := decide_eq_false (by omega)
          have z1 : decide ((0 : Int) < (k : Int)) = false := decide_eq_false (by omega)
          clear hk0
          go_wp2_with fail
          refine wp_region_held_drew (S := (fun w' => w'.cell? ⟨wr.heap.size, 0, none⟩ = some (.int .i64 (fx fs k).t) ∧ w'.cell? ⟨wr.heap.size, 1, none⟩ = some (.int .i64 (fx fs k).x) ∧ w'.cell? ⟨wr.heap.size, 2, none⟩ = some (.int .i64 (fx fs k).y) ∧ w'.cell? ⟨w.heap.size, 0, none⟩ = some (.slice (some ⟨b, off, none⟩) fs.length cap))) (by kernel_rfl) (by (try dsimp only); first | go_keep | exact (Ext.refl _).drew | exact Res.new2.drew | exact Res.new4.drew | exact ResB.drew (by assumption) | exact ResC.drew (by assumption) | assumption | exact Ext.drew (by assumption) | exact Res.drew (by assumption)) (fun hHeld => ?_)
          refine Ord.K 0 23 ?_
          (refine wpAnyH_ready (rs := [1]) (by kernel_rfl) (by simp) ?_; refine AllReadyH.cons rfl (fun K hK => ?_) AllReadyH.nil; go_simp; (go_at_call 100; refine (fixValid_of _ _).mono ?_; rintro e w1 ⟨rfl, hy⟩); go_wp2_with fail; (refine hK.out _ _ (by first | assumption | exact Ext.trans (by assumption) hy | exact Res.ext (by assumption) hy | exact ResB.ext (by assumption) hy | exact ResC.ext (by assumption) hy | (go_split_ands; (repeat' apply And.intro) <;> exact Ext.cellOf hy (by assumption))) (fun hHeld => ?_)); clear hK K; (try simp only [Act.put, Ord.a, Ord.b, Ord.c]))
          refine Ord.K 2 25 ?_
          refine Ord.K 3 26 ?_
          refine Ord.K 4 27 ?_
          refine Ord.K 5 28 ?_
          refine Ord.K 6 29 ?_
          (refine Ord.s 7 30 ?_ ?_; rfl; (try simp only [Act.put, Ord.a, Ord.b, Ord.c]))
          (refine Ord.s 8 31 ?_ ?_; rfl; (try simp only [Act.put, Ord.a, Ord.b, Ord.c]))
          (refine Ord.s 9 32 ?_ ?_; rfl; (try simp only [Act.put, Ord.a, Ord.b, Ord.c]))
          (refine Ord.s 10 33 ?_ ?_; rfl; (try simp only [Act.put, Ord.a, Ord.b, Ord.c]))
          (refine Ord.s 11 34 ?_ ?_; rfl; (try simp only [Act.put, Ord.a, Ord.b, Ord.c]))
          (refine Ord.s 12 35 ?_ ?_; rfl; (try simp only [Act.put, Ord.a, Ord.b, Ord.c]))
          (refine Ord.s 13 36 ?_ ?_; rfl; (try simp only [Act.put, Ord.a, Ord.b, Ord.c]))
          (refine Ord.s 14 37 ?_ ?_; rfl; (try simp only [Act.put, Ord.a, Ord.b, Ord.c]))
          (refine Ord.s 15 38 ?_ ?_; rfl; (try simp only [Act.put, Ord.a, Ord.b, Ord.c]))
          (refine Ord.s 16 39 ?_ ?_; rfl; (try simp only [Act.put, Ord.a, Ord.b, Ord.c]))
          refine Ord.K 17 40 ?_
          refine Ord.K 18 41 ?_
          refine wpAnyH_done (by kernel_rfl) ?_ _
          go_wp2
          go_roundw
          case rel => exact RelV.step HD.out hk1 H.out HX.out (by repeat (first | exact Ext.refl _ | assumption | apply Ext.alloc | apply Ext.drew | (refine Ext.trans ?_ (by assumption)) | (refine Ext.setNew ?_ (by simp <;> omega) _)))
          case measure => simp [intOf]; omega
        · have HOK := Lib.hid (show okB fs k = decide ((fx fs (k - 1)).t < (fx fs k).t) by obtain ⟨j, rfl⟩ : ∃ j, k = j + 1 := ⟨k - 1, by omega⟩; exact okB_succ hv)
          obtain ⟨p0, _, _⟩ := ((HB.out (k - 1) (by omega)).ext ((Ext.refl _).alloc _)).ext HX.out
          have z0 : decide (0 < k) = true := decide_eq_true (by omega)
          have z1 : decide ((0 : Int) < (k : Int)) = true := decide_eq_true (by omega)
          have t2 : (0 : Int) ≤ (k : Int) - 1 := by omega
          have t3 : (1 : Int) ≤ (k : Int) := by omega
          have t4 : (k : Int) - 1 < (fs.length : Int) := by omega
          have T0 : IntKind.i64.wrap ((k : Int) - 1) = (k : Int) - 1 := IntWalk.i64_in _ (by omega)
          have T1 : ((k : Int) - 1).toNat = k - 1 := by omega
          by_cases hlt : (fx fs (k - 1)).t < (fx fs k).t
          · have H := Lib.hid (show okB fs k = true by rw [HOK.out]; exact decide_eq_true hlt)
            have z2 : decide ((fx fs k).t ≤ (fx fs (k - 1)).t) = false := decide_eq_false (by omega)
            go_wp2_with fail
            refine wp_region_held_drew (S := (fun w' => w'.cell? ⟨wr.heap.size, 0, none⟩ = some (.int .i64 (fx fs k).t) ∧ w'.cell? ⟨wr.heap.size, 1, none⟩ = some (.int .i64 (fx fs k).x) ∧ w'.cell? ⟨wr.heap.size, 2, none⟩ = some (.int .i64 (fx fs k).y) ∧ w'.cell? ⟨w.heap.size, 0, none⟩ = some (.slice (some ⟨b, off, none⟩) fs.length cap) ∧ w'.cell? ⟨b, off + (k - 1) * 3, none⟩ = some (.int .i64 (fx fs (k - 1)).t))) (by kernel_rfl) (by (try dsimp only); first | go_keep | exact (Ext.refl _).drew | exact Res.new2.drew | exact Res.new4.drew | exact ResB.drew (by assumption) | exact ResC.drew (by assumption) | assumption | exact Ext.drew (by assumption) | exact Res.drew (by assumption)) (fun hHeld => ?_)
            refine Ord.K 0 23 ?_
            (refine wpAnyH_ready (rs := [1]) (by kernel_rfl) (by simp) ?_; refine AllReadyH.cons rfl (fun K hK => ?_) AllReadyH.nil; go_simp; (go_at_call 100; refine (fixValid_of _ _).mono ?_; rintro e w1 ⟨rfl, hy⟩); go_wp2_with fail; (refine hK.out _ _ (by first | assumption | exact Ext.trans (by assumption) hy | exact Res.ext (by assumption) hy | exact ResB.ext (by assumption) hy | exact ResC.ext (by assumption) hy | (go_split_ands; (repeat' apply And.intro) <;> exact Ext.cellOf hy (by assumption))) (fun hHeld => ?_)); clear hK K; (try simp only [Act.put, Ord.a, Ord.b, Ord.c]))
            refine Ord.K 2 25 ?_
            refine Ord.K 3 26 ?_
            refine Ord.K 4 27 ?_
            refine Ord.K 5 28 ?_
            refine Ord.K 6 29 ?_
            refine Ord.K 7 30 ?_
            refine Ord.K 8 31 ?_
            refine Ord.K 9 32 ?_
            refine Ord.K 10 33 ?_
            refine Ord.K 11 34 ?_
            refine Ord.K 12 35 ?_
            refine Ord.K 13 36 ?_
            refine Ord.K 14 37 ?_
            refine Ord.K 15 38 ?_
            refine Ord.K 16 39 ?_
            refine Ord.K 17 40 ?_
            refine Ord.K 18 41 ?_
            refine wpAnyH_done (by kernel_rfl) ?_ _
            clear T0 T1
            go_wp2
            go_roundw
            case rel => exact RelV.step HD.out hk1 H.out HX.out (by repeat (first | exact Ext.refl _ | assumption | apply Ext.alloc | apply Ext.drew | (refine Ext.trans ?_ (by assumption)) | (refine Ext.setNew ?_ (by simp <;> omega) _)))
            case measure => simp [intOf]; omega
          · have H := Lib.hid (trB_no hk1 (show okB fs k = false by rw [HOK.out]; exact decide_eq_false hlt))
            have z2 : decide ((fx fs k).t ≤ (fx fs (k - 1)).t) = true := decide_eq_true (by omega)
            go_wp2_with fail
            refine wp_region_held_drew (S := (fun w' => w'.cell? ⟨wr.heap.size, 0, none⟩ = some (.int .i64 (fx fs k).t) ∧ w'.cell? ⟨wr.heap.size, 1, none⟩ = some (.int .i64 (fx fs k).x) ∧ w'.cell? ⟨wr.heap.size, 2, none⟩ = some (.int .i64 (fx fs k).y) ∧ w'.cell? ⟨w.heap.size, 0, none⟩ = some (.slice (some ⟨b, off, none⟩) fs.length cap) ∧ w'.cell? ⟨b, off + (k - 1) * 3, none⟩ = some (.int .i64 (fx fs (k - 1)).t))) (by kernel_rfl) (by (try dsimp only); first | go_keep | exact (Ext.refl _).drew | exact Res.new2.drew | exact Res.new4.drew | exact ResB.drew (by assumption) | exact ResC.drew (by assumption) | assumption | exact Ext.drew (by assumption) | exact Res.drew (by assumption)) (fun hHeld => ?_)
            refine Ord.K 0 23 ?_
            (refine wpAnyH_ready (rs := [1]) (by kernel_rfl) (by simp) ?_; refine AllReadyH.cons rfl (fun K hK => ?_) AllReadyH.nil; go_simp; (go_at_call 100; refine (fixValid_of _ _).mono ?_; rintro e w1 ⟨rfl, hy⟩); go_wp2_with fail; (refine hK.out _ _ (by first | assumption | exact Ext.trans (by assumption) hy | exact Res.ext (by assumption) hy | exact ResB.ext (by assumption) hy | exact ResC.ext (by assumption) hy | (go_split_ands; (repeat' apply And.intro) <;> exact Ext.cellOf hy (by assumption))) (fun hHeld => ?_)); clear hK K; (try simp only [Act.put, Ord.a, Ord.b, Ord.c]))
            refine Ord.K 2 25 ?_
            refine Ord.K 3 26 ?_
            refine Ord.K 4 27 ?_
            refine Ord.K 5 28 ?_
            refine Ord.K 6 29 ?_
            refine Ord.K 7 30 ?_
            refine Ord.K 8 31 ?_
            refine Ord.K 9 32 ?_
            refine Ord.K 10 33 ?_
            refine Ord.K 11 34 ?_
            refine Ord.K 12 35 ?_
            refine Ord.K 13 36 ?_
            refine Ord.K 14 37 ?_
            refine Ord.K 15 38 ?_
            refine Ord.K 16 39 ?_
            refine Ord.K 17 40 ?_
            refine Ord.K 18 41 ?_
            refine wpAnyH_done (by kernel_rfl) ?_ _
            clear T0 T1
            go_wp2
            go_ret
            exact ⟨ret_bool H.out, ((Ext.refl _).alloc _).trans (HX.out.trans (by repeat (first | exact Ext.refl _ | assumption | apply Ext.alloc | apply Ext.drew | (refine Ext.trans ?_ (by assumption)) | (refine Ext.setNew ?_ (by simp <;> omega) _))))⟩
    · obtain rfl : k = fs.length := by omega
      have H := Lib.hid (trB_all (by omega) (by omega) HD.out)
      go_wp2
      go_ret
      exact ⟨ret_bool H.out, ((Ext.refl _).alloc _).trans HX.out⟩
theorem fxB_time {f : F3} (h : inB f.t 0 1000000000 = false) : fxB f = false := by unfold fxB tmB; rw [h]; rfl
theorem fxB_pt {f : F3} (h : ptB f.x f.y = false) : fxB f = false := by unfold fxB; rw [h]; simp
theorem fxB_both {f : F3} (h : inB f.t 0 1000000000 = true) (g : ptB f.x f.y = true) : fxB f = true := by unfold fxB tmB; rw [h, g]; rfl
set_option maxHeartbeats 1000000 in
theorem isTrack_spec (a : Option Addr) (cap : Nat) (fs : List F3) (w : World) (hf : Fxs w a fs) : Calls Tryz.prog 52 #[Tr (.slice a fs.length cap)] w fun e w' => e = .returned (.bool (trB fs)) ∧ Ext w w' := by
  have hm := hf.1
  unfold maxLen at hm
  have HF := Lib.hid hf
  clear hf
  by_cases h2 : fs.length < 2
  · have H := Lib.hid (trB_short h2)
    go_enter Tryz.func52, Tryz.ntmps52
    go_wp2
    go_ret
    exact ⟨ret_bool H.out, (by repeat (first | exact Ext.refl _ | assumption | apply Ext.alloc | apply Ext.drew | (refine Ext.trans ?_ (by assumption)) | (refine Ext.setNew ?_ (by simp <;> omega) _)))⟩
  by_cases h40 : 40 < fs.length
  · have H := Lib.hid (trB_long h40)
    go_enter Tryz.func52, Tryz.ntmps52
    go_wp2
    go_ret
    exact ⟨ret_bool H.out, (by repeat (first | exact Ext.refl _ | assumption | apply Ext.alloc | apply Ext.drew | (refine Ext.trans ?_ (by assumption)) | (refine Ext.setNew ?_ (by simp <;> omega) _)))⟩
  have q2 : decide ((fs.length : Int) < 2) = false := decide_eq_false (by omega)
  have q40 : decide (40 < (fs.length : Int)) = false := decide_eq_false (by omega)
  go_enter Tryz.func52, Tryz.ntmps52
  go_wp2
  go_loopw [4] (fun i wr => RelV (w.alloc (.cells #[.slice a fs.length cap] 30)) fs i wr) (fun i _ => fs.length - (intOf i).toNat)
  case atStart => exact ⟨0, rfl, Nat.zero_le _, fun j hj => absurd hj (by omega), Ext.refl _⟩
  case round =>
    obtain ⟨k, rfl, hk, hd, hx⟩ := hrel
    have HD := Lib.hid hd
    have HX := Lib.hid hx
    have bx : wr.cell? ⟨w.heap.size, 0, none⟩ = some (.slice a fs.length cap) := hx.cellOf (boxed 0 rfl rfl)
    clear hd hx
    by_cases hk1 : k < fs.length
    · rcases HF.out.2 with h0 | ⟨b, off, rfl, hb⟩
      · rw [h0] at hk1; simp at hk1
      have HB := Lib.hid hb
      clear hb
      obtain ⟨c0, c1, c2⟩ := ((HB.out k hk1).ext ((Ext.refl _).alloc _)).ext HX.out
      have i0 : (0 : Int) ≤ (k : Int) := by omega
      have i1 : (k : Int) < (fs.length : Int) := by omega
      cases hv : inB (fx fs k).t 0 1000000000
      · have H := Lib.hid (trB_no hk1 (okB_time (fxB_time hv)))
        go_wp2_with fail
        refine wp_region_held_drew (S := (fun w' => w'.cell? ⟨wr.heap.size, 0, none⟩ = some (.int .i64 (fx fs k).t) ∧ w'.cell? ⟨wr.heap.size, 1, none⟩ = some (.int .i64 (fx fs k).x) ∧ w'.cell? ⟨wr.heap.size, 2, none⟩ = some (.int .i64 (fx fs k).y) ∧ w'.cell? ⟨w.heap.size, 0, none⟩ = some (.slice (some ⟨b, off, none⟩) fs.length cap))) (by kernel_rfl) (by (try dsimp only); first | go_keep | exact (Ext.refl _).drew | exact Res.new2.drew | exact Res.new4.drew | exact ResB.drew (by assumption) | exact ResC.drew (by assumption) | assumption | exact Ext.drew (by assumption) | exact Res.drew (by assumption)) (fun hHeld => ?_)
        refine Ord.K 0 25 ?_
        refine Ord.K 1 26 ?_
        (refine wpAnyH_ready (rs := [2]) (by kernel_rfl) (by simp) ?_; refine AllReadyH.cons rfl (fun K hK => ?_) AllReadyH.nil; go_simp; (first | (go_at_call 65; refine (in_any _ _ _ _).mono ?_; rintro e w1 ⟨rfl, rfl⟩) | (go_at_call 78; refine (point_spec _ _ _ _).mono ?_; rintro e w1 ⟨rfl, hy⟩) | (go_at_call 77; refine (isPoint_spec _ _ _).mono ?_; rintro e w1 ⟨rfl, hy⟩)); go_wp2_with fail; (refine hK.out _ _ (by first | assumption | exact Ext.trans (by assumption) hy | exact Res.ext (by assumption) hy | exact ResB.ext (by assumption) hy | exact ResC.ext (by assumption) hy | (go_split_ands; (repeat' apply And.intro) <;> exact Ext.cellOf hy (by assumption))) (fun hHeld => ?_)); clear hK K; (try simp only [Act.put, Ord.a, Ord.b, Ord.c]))
        refine Ord.K 3 28 ?_
        refine Ord.K 4 29 ?_
        (refine Ord.s 5 30 ?_ ?_; rfl; (try simp only [Act.put, Ord.a, Ord.b, Ord.c]))
        (refine Ord.s 6 31 ?_ ?_; rfl; (try simp only [Act.put, Ord.a, Ord.b, Ord.c]))
        (refine Ord.s 7 32 ?_ ?_; rfl; (try simp only [Act.put, Ord.a, Ord.b, Ord.c]))
        (refine Ord.s 8 33 ?_ ?_; rfl; (try simp only [Act.put, Ord.a, Ord.b, Ord.c]))
        refine Ord.K 9 34 ?_
        refine Ord.K 10 35 ?_
        (refine Ord.s 11 36 ?_ ?_; rfl; (try simp only [Act.put, Ord.a, Ord.b, Ord.c]))
        (refine Ord.s 12 37 ?_ ?_; rfl; (try simp only [Act.put, Ord.a, Ord.b, Ord.c]))
        (refine Ord.s 13 38 ?_ ?_; rfl; (try simp only [Act.put, Ord.a, Ord.b, Ord.c]))
        (refine Ord.s 14 39 ?_ ?_; rfl; (try simp only [Act.put, Ord.a, Ord.b, Ord.c]))
        (refine Ord.s 15 40 ?_ ?_; rfl; (try simp only [Act.put, Ord.a, Ord.b, Ord.c]))
        (refine Ord.s 16 41 ?_ ?_; rfl; (try simp only [Act.put, Ord.a, Ord.b, Ord.c]))
        (refine Ord.s 17 42 ?_ ?_; rfl; (try simp only [Act.put, Ord.a, Ord.b, Ord.c]))
        (refine Ord.s 18 43 ?_ ?_; rfl; (try simp only [Act.put, Ord.a, Ord.b, Ord.c]))
        (refine Ord.s 19 44 ?_ ?_; rfl; (try simp only [Act.put, Ord.a, Ord.b, Ord.c]))
        (refine Ord.s 20 45 ?_ ?_; rfl; (try simp only [Act.put, Ord.a, Ord.b, Ord.c]))
        (refine Ord.s 21 46 ?_ ?_; rfl; (try simp only [Act.put, Ord.a, Ord.b, Ord.c]))
        (refine Ord.s 22 47 ?_ ?_; rfl; (try simp only [Act.put, Ord.a, Ord.b, Ord.c]))
        (refine Ord.s 23 48 ?_ ?_; rfl; (try simp only [Act.put, Ord.a, Ord.b, Ord.c]))
        (refine Ord.s 24 49 ?_ ?_; rfl; (try simp only [Act.put, Ord.a, Ord.b, Ord.c]))
        refine Ord.K 25 50 ?_
        refine wpAnyH_done (by kernel_rfl) ?_ _
        go_wp2
        go_ret
        exact ⟨ret_bool H.out, ((Ext.refl _).alloc _).trans (HX.out.trans (by repeat (first | exact Ext.refl _ | assumption | apply Ext.alloc | apply Ext.drew | (refine Ext.trans ?_ (by assumption)) | (refine Ext.setNew ?_ (by simp <;> omega) _))))⟩
      cases hq : ptB (fx fs k).x (fx fs k).y
      · have H := Lib.hid (trB_no hk1 (okB_time (fxB_pt hq)))
        go_wp2_with fail
        refine wp_region_held_drew (S := (fun w' => w'.cell? ⟨wr.heap.size, 0, none⟩ = some (.int .i64 (fx fs k).t) ∧ w'.cell? ⟨wr.heap.size, 1, none⟩ = some (.int .i64 (fx fs k).x) ∧ w'.cell? ⟨wr.heap.size, 2, none⟩ = some (.int .i64 (fx fs k).y) ∧ w'.cell? ⟨w.heap.size, 0, none⟩ = some (.slice (some ⟨b, off, none⟩) fs.length cap))) (by kernel_rfl) (by (try dsimp only); first | go_keep | exact (Ext.refl _).drew | exact Res.new2.drew | exact Res.new4.drew | exact ResB.drew (by assumption) | exact ResC.drew (by assumption) | assumption | exact Ext.drew (by assumption) | exact Res.drew (by assumption)) (fun hHeld => ?_)
        refine Ord.K 0 25 ?_
        refine Ord.K 1 26 ?_
        (refine wpAnyH_ready (rs := [2]) (by kernel_rfl) (by simp) ?_; refine AllReadyH.cons rfl (fun K hK => ?_) AllReadyH.nil; go_simp; (first | (go_at_call 65; refine (in_any _ _ _ _).mono ?_; rintro e w1 ⟨rfl, rfl⟩) | (go_at_call 78; refine (point_spec _ _ _ _).mono ?_; rintro e w1 ⟨rfl, hy⟩) | (go_at_call 77; refine (isPoint_spec _ _ _).mono ?_; rintro e w1 ⟨rfl, hy⟩)); go_wp2_with fail; (refine hK.out _ _ (by first | assumption | exact Ext.trans (by assumption) hy | exact Res.ext (by assumption) hy | exact ResB.ext (by assumption) hy | exact ResC.ext (by assumption) hy | (go_split_ands; (repeat' apply And.intro) <;> exact Ext.cellOf hy (by assumption))) (fun hHeld => ?_)); clear hK K; (try simp only [Act.put, Ord.a, Ord.b, Ord.c]))
        refine Ord.K 3 28 ?_
        refine Ord.K 4 29 ?_
        refine Ord.K 5 30 ?_
        (refine wpAnyH_ready (rs := [6]) (by kernel_rfl) (by simp) ?_; refine AllReadyH.cons rfl (fun K hK => ?_) AllReadyH.nil; go_simp; (first | (go_at_call 65; refine (in_any _ _ _ _).mono ?_; rintro e w1 ⟨rfl, rfl⟩) | (go_at_call 78; refine (point_spec _ _ _ _).mono ?_; rintro e w1 ⟨rfl, hy⟩) | (go_at_call 77; refine (isPoint_spec _ _ _).mono ?_; rintro e w1 ⟨rfl, hy⟩)); go_wp2_with fail; (refine hK.out _ _ (by first | assumption | exact Ext.trans (by assumption) hy | exact Res.ext (by assumption) hy | exact ResB.ext (by assumption) hy | exact ResC.ext (by assumption) hy | (go_split_ands; (repeat' apply And.intro) <;> exact Ext.cellOf hy (by assumption))) (fun hHeld => ?_)); clear hK K; (try simp only [Act.put, Ord.a, Ord.b, Ord.c]))
        (refine wpAnyH_ready (rs := [7]) (by kernel_rfl) (by simp) ?_; refine AllReadyH.cons rfl (fun K hK => ?_) AllReadyH.nil; go_simp; (first | (go_at_call 65; refine (in_any _ _ _ _).mono ?_; rintro e w1 ⟨rfl, rfl⟩) | (go_at_call 78; refine (point_spec _ _ _ _).mono ?_; rintro e w1 ⟨rfl, hy⟩) | (go_at_call 77; refine (isPoint_spec _ _ _).mono ?_; rintro e w1 ⟨rfl, hy⟩)); go_wp2_with fail; (refine hK.out _ _ (by first | assumption | exact Ext.trans (by assumption) hy | exact Res.ext (by assumption) hy | exact ResB.ext (by assumption) hy | exact ResC.ext (by assumption) hy | (go_split_ands; (repeat' apply And.intro) <;> exact Ext.cellOf hy (by assumption))) (fun hHeld => ?_)); clear hK K; (try simp only [Act.put, Ord.a, Ord.b, Ord.c]))
        refine Ord.K 8 33 ?_
        refine Ord.K 9 34 ?_
        refine Ord.K 10 35 ?_
        (refine Ord.s 11 36 ?_ ?_; rfl; (try simp only [Act.put, Ord.a, Ord.b, Ord.c]))
        (refine Ord.s 12 37 ?_ ?_; rfl; (try simp only [Act.put, Ord.a, Ord.b, Ord.c]))
        (refine Ord.s 13 38 ?_ ?_; rfl; (try simp only [Act.put, Ord.a, Ord.b, Ord.c]))
        (refine Ord.s 14 39 ?_ ?_; rfl; (try simp only [Act.put, Ord.a, Ord.b, Ord.c]))
        (refine Ord.s 15 40 ?_ ?_; rfl; (try simp only [Act.put, Ord.a, Ord.b, Ord.c]))
        (refine Ord.s 16 41 ?_ ?_; rfl; (try simp only [Act.put, Ord.a, Ord.b, Ord.c]))
        (refine Ord.s 17 42 ?_ ?_; rfl; (try simp only [Act.put, Ord.a, Ord.b, Ord.c]))
        (refine Ord.s 18 43 ?_ ?_; rfl; (try simp only [Act.put, Ord.a, Ord.b, Ord.c]))
        (refine Ord.s 19 44 ?_ ?_; rfl; (try simp only [Act.put, Ord.a, Ord.b, Ord.c]))
        (refine Ord.s 20 45 ?_ ?_; rfl; (try simp only [Act.put, Ord.a, Ord.b, Ord.c]))
        (refine Ord.s 21 46 ?_ ?_; rfl; (try simp only [Act.put, Ord.a, Ord.b, Ord.c]))
        (refine Ord.s 22 47 ?_ ?_; rfl; (try simp only [Act.put, Ord.a, Ord.b, Ord.c]))
        (refine Ord.s 23 48 ?_ ?_; rfl; (try simp only [Act.put, Ord.a, Ord.b, Ord.c]))
        (refine Ord.s 24 49 ?_ ?_; rfl; (try simp only [Act.put, Ord.a, Ord.b, Ord.c]))
        refine Ord.K 25 50 ?_
        refine wpAnyH_done (by kernel_rfl) ?_ _
        go_wp2
        go_ret
        exact ⟨ret_bool H.out, ((Ext.refl _).alloc _).trans (HX.out.trans (by repeat (first | exact Ext.refl _ | assumption | apply Ext.alloc | apply Ext.drew | (refine Ext.trans ?_ (by assumption)) | (refine Ext.setNew ?_ (by simp <;> omega) _))))⟩
      have HV := Lib.hid (fxB_both hv hq)
      by_cases hk0 : k = 0
      · have H := Lib.hid (show okB fs k = true by have := HV.out; rw [hk0] at this ⊢; exact okB_zero this)
        have HK := Lib.hid hk0
        have z0 : decide (0 < k) = false := decide_eq_false (by omega)
        have z1 : decide ((0 : Int) < (k : Int)) = false := decide_eq_false (by omega)
        clear hk0
        go_wp2_with fail
        refine wp_region_held_drew (S := (fun w' => w'.cell? ⟨wr.heap.size, 0, none⟩ = some (.int .i64 (fx fs k).t) ∧ w'.cell? ⟨wr.heap.size, 1, none⟩ = some (.int .i64 (fx fs k).x) ∧ w'.cell? ⟨wr.heap.size, 2, none⟩ = some (.int .i64 (fx fs k).y) ∧ w'.cell? ⟨w.heap.size, 0, none⟩ = some (.slice (some ⟨b, off, none⟩) fs.length cap))) (by kernel_rfl) (by (try dsimp only); first | go_keep | exact (Ext.refl _).drew | exact Res.new2.drew | exact Res.new4.drew | exact ResB.drew (by assumption) | exact ResC.drew (by assumption) | assumption | exact Ext.drew (by assumption) | exact Res.drew (by assumption)) (fun hHeld => ?_)
        refine Ord.K 0 25 ?_
        refine Ord.K 1 26 ?_
        (refine wpAnyH_ready (rs := [2]) (by kernel_rfl) (by simp) ?_; refine AllReadyH.cons rfl (fun K hK => ?_) AllReadyH.nil; go_simp; (first | (go_at_call 65; refine (in_any _ _ _ _).mono ?_; rintro e w1 ⟨rfl, rfl⟩) | (go_at_call 78; refine (point_spec _ _ _ _).mono ?_; rintro e w1 ⟨rfl, hy⟩) | (go_at_call 77; refine (isPoint_spec _ _ _).mono ?_; rintro e w1 ⟨rfl, hy⟩)); go_wp2_with fail; (refine hK.out _ _ (by first | assumption | exact Ext.trans (by assumption) hy | exact Res.ext (by assumption) hy | exact ResB.ext (by assumption) hy | exact ResC.ext (by assumption) hy | (go_split_ands; (repeat' apply And.intro) <;> exact Ext.cellOf hy (by assumption))) (fun hHeld => ?_)); clear hK K; (try simp only [Act.put, Ord.a, Ord.b, Ord.c]))
        refine Ord.K 3 28 ?_
        refine Ord.K 4 29 ?_
        refine Ord.K 5 30 ?_
        (refine wpAnyH_ready (rs := [6]) (by kernel_rfl) (by simp) ?_; refine AllReadyH.cons rfl (fun K hK => ?_) AllReadyH.nil; go_simp; (first | (go_at_call 65; refine (in_any _ _ _ _).mono ?_; rintro e w1 ⟨rfl, rfl⟩) | (go_at_call 78; refine (point_spec _ _ _ _).mono ?_; rintro e w1 ⟨rfl, hy⟩) | (go_at_call 77; refine (isPoint_spec _ _ _).mono ?_; rintro e w1 ⟨rfl, hy⟩)); go_wp2_with fail; (refine hK.out _ _ (by first | assumption | exact Ext.trans (by assumption) hy | exact Res.ext (by assumption) hy | exact ResB.ext (by assumption) hy | exact ResC.ext (by assumption) hy | (go_split_ands; (repeat' apply And.intro) <;> exact Ext.cellOf hy (by assumption))) (fun hHeld => ?_)); clear hK K; (try simp only [Act.put, Ord.a, Ord.b, Ord.c]))
        (refine wpAnyH_ready (rs := [7]) (by kernel_rfl) (by simp) ?_; refine AllReadyH.cons rfl (fun K hK => ?_) AllReadyH.nil; go_simp; (first | (go_at_call 65; refine (in_any _ _ _ _).mono ?_; rintro e w1 ⟨rfl, rfl⟩) | (go_at_call 78; refine (point_spec _ _ _ _).mono ?_; rintro e w1 ⟨rfl, hy⟩) | (go_at_call 77; refine (isPoint_spec _ _ _).mono ?_; rintro e w1 ⟨rfl, hy⟩)); go_wp2_with fail; (refine hK.out _ _ (by first | assumption | exact Ext.trans (by assumption) hy | exact Res.ext (by assumption) hy | exact ResB.ext (by assumption) hy | exact ResC.ext (by assumption) hy | (go_split_ands; (repeat' apply And.intro) <;> exact Ext.cellOf hy (by assumption))) (fun hHeld => ?_)); clear hK K; (try simp only [Act.put, Ord.a, Ord.b, Ord.c]))
        refine Ord.K 8 33 ?_
        refine Ord.K 9 34 ?_
        refine Ord.K 10 35 ?_
        refine Ord.K 11 36 ?_
        refine Ord.K 12 37 ?_
        refine Ord.K 13 38 ?_
        (refine Ord.s 14 39 ?_ ?_; rfl; (try simp only [Act.put, Ord.a, Ord.b, Ord.c]))
        (refine Ord.s 15 40 ?_ ?_; rfl; (try simp only [Act.put, Ord.a, Ord.b, Ord.c]))
        (refine Ord.s 16 41 ?_ ?_; rfl; (try simp only [Act.put, Ord.a, Ord.b, Ord.c]))
        (refine Ord.s 17 42 ?_ ?_; rfl; (try simp only [Act.put, Ord.a, Ord.b, Ord.c]))
        (refine Ord.s 18 43 ?_ ?_; rfl; (try simp only [Act.put, Ord.a, Ord.b, Ord.c]))
        (refine Ord.s 19 44 ?_ ?_; rfl; (try simp only [Act.put, Ord.a, Ord.b, Ord.c]))
        (refine Ord.s 20 45 ?_ ?_; rfl; (try simp only [Act.put, Ord.a, Ord.b, Ord.c]))
        (refine Ord.s 21 46 ?_ ?_; rfl; (try simp only [Act.put, Ord.a, Ord.b, Ord.c]))
        (refine Ord.s 22 47 ?_ ?_; rfl; (try simp only [Act.put, Ord.a, Ord.b, Ord.c]))
        (refine Ord.s 23 48 ?_ ?_; rfl; (try simp only [Act.put, Ord.a, Ord.b, Ord.c]))
        refine Ord.K 24 49 ?_
        refine Ord.K 25 50 ?_
        refine wpAnyH_done (by kernel_rfl) ?_ _
        go_wp2
        go_roundw
        case rel => exact RelV.step HD.out hk1 H.out HX.out (by repeat (first | exact Ext.refl _ | assumption | apply Ext.alloc | apply Ext.drew | (refine Ext.trans ?_ (by assumption)) | (refine Ext.setNew ?_ (by simp <;> omega) _)))
        case measure => simp [intOf]; omega
      · have HOK := Lib.hid (show okB fs k = decide ((fx fs (k - 1)).t < (fx fs k).t) by have := HV.out; obtain ⟨j, rfl⟩ : ∃ j, k = j + 1 := ⟨k - 1, by omega⟩; exact okB_succ this)
        obtain ⟨p0, _, _⟩ := ((HB.out (k - 1) (by omega)).ext ((Ext.refl _).alloc _)).ext HX.out
        have z0 : decide (0 < k) = true := decide_eq_true (by omega)
        have z1 : decide ((0 : Int) < (k : Int)) = true := decide_eq_true (by omega)
        have t2 : (0 : Int) ≤ (k : Int) - 1 := by omega
        have t3 : (1 : Int) ≤ (k : Int) := by omega
        have t4 : (k : Int) - 1 < (fs.length : Int) := by omega
        have T0 : IntKind.i64.wrap ((k : Int) - 1) = (k : Int) - 1 := IntWalk.i64_in _ (by omega)
        have T1 : ((k : Int) - 1).toNat = k - 1 := by omega
        by_cases hlt : (fx fs (k - 1)).t < (fx fs k).t
        · have H := Lib.hid (show okB fs k = true by rw [HOK.out]; exact decide_eq_true hlt)
          have z2 : decide ((fx fs k).t ≤ (fx fs (k - 1)).t) = false := decide_eq_false (by omega)
          go_wp2_with fail
          refine wp_region_held_drew (S := (fun w' => w'.cell? ⟨wr.heap.size, 0, none⟩ = some (.int .i64 (fx fs k).t) ∧ w'.cell? ⟨wr.heap.size, 1, none⟩ = some (.int .i64 (fx fs k).x) ∧ w'.cell? ⟨wr.heap.size, 2, none⟩ = some (.int .i64 (fx fs k).y) ∧ w'.cell? ⟨w.heap.size, 0, none⟩ = some (.slice (some ⟨b, off, none⟩) fs.length cap) ∧ w'.cell? ⟨b, off + (k - 1) * 3, none⟩ = some (.int .i64 (fx fs (k - 1)).t))) (by kernel_rfl) (by (try dsimp only); first | go_keep | exact (Ext.refl _).drew | exact Res.new2.drew | exact Res.new4.drew | exact ResB.drew (by assumption) | exact ResC.drew (by assumption) | assumption | exact Ext.drew (by assumption) | exact Res.drew (by assumption)) (fun hHeld => ?_)
          refine Ord.K 0 25 ?_
          refine Ord.K 1 26 ?_
          (refine wpAnyH_ready (rs := [2]) (by kernel_rfl) (by simp) ?_; refine AllReadyH.cons rfl (fun K hK => ?_) AllReadyH.nil; go_simp; (first | (go_at_call 65; refine (in_any _ _ _ _).mono ?_; rintro e w1 ⟨rfl, rfl⟩) | (go_at_call 78; refine (point_spec _ _ _ _).mono ?_; rintro e w1 ⟨rfl, hy⟩) | (go_at_call 77; refine (isPoint_spec _ _ _).mono ?_; rintro e w1 ⟨rfl, hy⟩)); go_wp2_with fail; (refine hK.out _ _ (by first | assumption | exact Ext.trans (by assumption) hy | exact Res.ext (by assumption) hy | exact ResB.ext (by assumption) hy | exact ResC.ext (by assumption) hy | (go_split_ands; (repeat' apply And.intro) <;> exact Ext.cellOf hy (by assumption))) (fun hHeld => ?_)); clear hK K; (try simp only [Act.put, Ord.a, Ord.b, Ord.c]))
          refine Ord.K 3 28 ?_
          refine Ord.K 4 29 ?_
          refine Ord.K 5 30 ?_
          (refine wpAnyH_ready (rs := [6]) (by kernel_rfl) (by simp) ?_; refine AllReadyH.cons rfl (fun K hK => ?_) AllReadyH.nil; go_simp; (first | (go_at_call 65; refine (in_any _ _ _ _).mono ?_; rintro e w1 ⟨rfl, rfl⟩) | (go_at_call 78; refine (point_spec _ _ _ _).mono ?_; rintro e w1 ⟨rfl, hy⟩) | (go_at_call 77; refine (isPoint_spec _ _ _).mono ?_; rintro e w1 ⟨rfl, hy⟩)); go_wp2_with fail; (refine hK.out _ _ (by first | assumption | exact Ext.trans (by assumption) hy | exact Res.ext (by assumption) hy | exact ResB.ext (by assumption) hy | exact ResC.ext (by assumption) hy | (go_split_ands; (repeat' apply And.intro) <;> exact Ext.cellOf hy (by assumption))) (fun hHeld => ?_)); clear hK K; (try simp only [Act.put, Ord.a, Ord.b, Ord.c]))
          (refine wpAnyH_ready (rs := [7]) (by kernel_rfl) (by simp) ?_; refine AllReadyH.cons rfl (fun K hK => ?_) AllReadyH.nil; go_simp; (first | (go_at_call 65; refine (in_any _ _ _ _).mono ?_; rintro e w1 ⟨rfl, rfl⟩) | (go_at_call 78; refine (point_spec _ _ _ _).mono ?_; rintro e w1 ⟨rfl, hy⟩) | (go_at_call 77; refine (isPoint_spec _ _ _).mono ?_; rintro e w1 ⟨rfl, hy⟩)); go_wp2_with fail; (refine hK.out _ _ (by first | assumption | exact Ext.trans (by assumption) hy | exact Res.ext (by assumption) hy | exact ResB.ext (by assumption) hy | exact ResC.ext (by assumption) hy | (go_split_ands; (repeat' apply And.intro) <;> exact Ext.cellOf hy (by assumption))) (fun hHeld => ?_)); clear hK K; (try simp only [Act.put, Ord.a, Ord.b, Ord.c]))
          refine Ord.K 8 33 ?_
          refine Ord.K 9 34 ?_
          refine Ord.K 10 35 ?_
          refine Ord.K 11 36 ?_
          refine Ord.K 12 37 ?_
          refine Ord.K 13 38 ?_
          refine Ord.K 14 39 ?_
          refine Ord.K 15 40 ?_
          refine Ord.K 16 41 ?_
          refine Ord.K 17 42 ?_
          refine Ord.K 18 43 ?_
          refine Ord.K 19 44 ?_
          refine Ord.K 20 45 ?_
          refine Ord.K 21 46 ?_
          refine Ord.K 22 47 ?_
          refine Ord.K 23 48 ?_
          refine Ord.K 24 49 ?_
          refine Ord.K 25 50 ?_
          refine wpAnyH_done (by kernel_rfl) ?_ _
          clear T0 T1
          go_wp2
          go_roundw
          case rel => exact RelV.step HD.out hk1 H.out HX.out (by repeat (first | exact Ext.refl _ | assumption | apply Ext.alloc | apply Ext.drew | (refine Ext.trans ?_ (by assumption)) | (refine Ext.setNew ?_ (by simp <;> omega) _)))
          case measure => simp [intOf]; omega
        · have H := Lib.hid (trB_no hk1 (show okB fs k = false by rw [HOK.out]; exact decide_eq_false hlt))
          have z2 : decide ((fx fs k).t ≤ (fx fs (k - 1)).t) = true := decide_eq_true (by omega)
          go_wp2_with fail
          refine wp_region_held_drew (S := (fun w' => w'.cell? ⟨wr.heap.size, 0, none⟩ = some (.int .i64 (fx fs k).t) ∧ w'.cell? ⟨wr.heap.size, 1, none⟩ = some (.int .i64 (fx fs k).x) ∧ w'.cell? ⟨wr.heap.size, 2, none⟩ = some (.int .i64 (fx fs k).y) ∧ w'.cell? ⟨w.heap.size, 0, none⟩ = some (.slice (some ⟨b, off, none⟩) fs.length cap) ∧ w'.cell? ⟨b, off + (k - 1) * 3, none⟩ = some (.int .i64 (fx fs (k - 1)).t))) (by kernel_rfl) (by (try dsimp only); first | go_keep | exact (Ext.refl _).drew | exact Res.new2.drew | exact Res.new4.drew | exact ResB.drew (by assumption) | exact ResC.drew (by assumption) | assumption | exact Ext.drew (by assumption) | exact Res.drew (by assumption)) (fun hHeld => ?_)
          refine Ord.K 0 25 ?_
          refine Ord.K 1 26 ?_
          (refine wpAnyH_ready (rs := [2]) (by kernel_rfl) (by simp) ?_; refine AllReadyH.cons rfl (fun K hK => ?_) AllReadyH.nil; go_simp; (first | (go_at_call 65; refine (in_any _ _ _ _).mono ?_; rintro e w1 ⟨rfl, rfl⟩) | (go_at_call 78; refine (point_spec _ _ _ _).mono ?_; rintro e w1 ⟨rfl, hy⟩) | (go_at_call 77; refine (isPoint_spec _ _ _).mono ?_; rintro e w1 ⟨rfl, hy⟩)); go_wp2_with fail; (refine hK.out _ _ (by first | assumption | exact Ext.trans (by assumption) hy | exact Res.ext (by assumption) hy | exact ResB.ext (by assumption) hy | exact ResC.ext (by assumption) hy | (go_split_ands; (repeat' apply And.intro) <;> exact Ext.cellOf hy (by assumption))) (fun hHeld => ?_)); clear hK K; (try simp only [Act.put, Ord.a, Ord.b, Ord.c]))
          refine Ord.K 3 28 ?_
          refine Ord.K 4 29 ?_
          refine Ord.K 5 30 ?_
          (refine wpAnyH_ready (rs := [6]) (by kernel_rfl) (by simp) ?_; refine AllReadyH.cons rfl (fun K hK => ?_) AllReadyH.nil; go_simp; (first | (go_at_call 65; refine (in_any _ _ _ _).mono ?_; rintro e w1 ⟨rfl, rfl⟩) | (go_at_call 78; refine (point_spec _ _ _ _).mono ?_; rintro e w1 ⟨rfl, hy⟩) | (go_at_call 77; refine (isPoint_spec _ _ _).mono ?_; rintro e w1 ⟨rfl, hy⟩)); go_wp2_with fail; (refine hK.out _ _ (by first | assumption | exact Ext.trans (by assumption) hy | exact Res.ext (by assumption) hy | exact ResB.ext (by assumption) hy | exact ResC.ext (by assumption) hy | (go_split_ands; (repeat' apply And.intro) <;> exact Ext.cellOf hy (by assumption))) (fun hHeld => ?_)); clear hK K; (try simp only [Act.put, Ord.a, Ord.b, Ord.c]))
          (refine wpAnyH_ready (rs := [7]) (by kernel_rfl) (by simp) ?_; refine AllReadyH.cons rfl (fun K hK => ?_) AllReadyH.nil; go_simp; (first | (go_at_call 65; refine (in_any _ _ _ _).mono ?_; rintro e w1 ⟨rfl, rfl⟩) | (go_at_call 78; refine (point_spec _ _ _ _).mono ?_; rintro e w1 ⟨rfl, hy⟩) | (go_at_call 77; refine (isPoint_spec _ _ _).mono ?_; rintro e w1 ⟨rfl, hy⟩)); go_wp2_with fail; (refine hK.out _ _ (by first | assumption | exact Ext.trans (by assumption) hy | exact Res.ext (by assumption) hy | exact ResB.ext (by assumption) hy | exact ResC.ext (by assumption) hy | (go_split_ands; (repeat' apply And.intro) <;> exact Ext.cellOf hy (by assumption))) (fun hHeld => ?_)); clear hK K; (try simp only [Act.put, Ord.a, Ord.b, Ord.c]))
          refine Ord.K 8 33 ?_
          refine Ord.K 9 34 ?_
          refine Ord.K 10 35 ?_
          refine Ord.K 11 36 ?_
          refine Ord.K 12 37 ?_
          refine Ord.K 13 38 ?_
          refine Ord.K 14 39 ?_
          refine Ord.K 15 40 ?_
          refine Ord.K 16 41 ?_
          refine Ord.K 17 42 ?_
          refine Ord.K 18 43 ?_
          refine Ord.K 19 44 ?_
          refine Ord.K 20 45 ?_
          refine Ord.K 21 46 ?_
          refine Ord.K 22 47 ?_
          refine Ord.K 23 48 ?_
          refine Ord.K 24 49 ?_
          refine Ord.K 25 50 ?_
          refine wpAnyH_done (by kernel_rfl) ?_ _
          clear T0 T1
          go_wp2
          go_ret
          exact ⟨ret_bool H.out, ((Ext.refl _).alloc _).trans (HX.out.trans (by repeat (first | exact Ext.refl _ | assumption | apply Ext.alloc | apply Ext.drew | (refine Ext.trans ?_ (by assumption)) | (refine Ext.setNew ?_ (by simp <;> omega) _))))⟩
    · obtain rfl : k = fs.length := by omega
      have H := Lib.hid (trB_all (by omega) (by omega) HD.out)
      go_wp2
      go_ret
      exact ⟨ret_bool H.out, ((Ext.refl _).alloc _).trans HX.out⟩
end Go.Proofs.YtknelhceaoblhaaGreat.Trk
namespace Go.Proofs.YtknelhceaoblhaaGreat.Trk
open Go.ChangeShapes Go.WideShapes Go.ChangeAt Go.RowKit
open Go.Proofs.YtknelhceaoblhaaGreat.Num Go.Proofs.YtknelhceaoblhaaGreat.Kit Go.Proofs.YtknelhceaoblhaaGreat.Pts
set_option linter.unusedVariables false
set_option linter.unusedSimpArgs false
abbrev FxV (f : F3) : Value := Fx f.t f.x f.y
theorem wrap_pred {n : Nat} (h1 : 1 ≤ n) (hm : n ≤ maxLen) : IntKind.i64.wrap ((n : Int) - 1) = (n : Int) - 1 := IntWalk.i64_in _ (by unfold maxLen at hm; omega)
theorem wrap_succ {n : Nat} (hm : n ≤ 1000000) : IntKind.i64.wrap ((n : Int) + 1) = (n : Int) + 1 := IntWalk.i64_in _ (by omega)
theorem two_on {w : World} {p : Addr} {v : Value} (h : w.cell? p = some v) : ∀ A B, ((w.alloc A).alloc B).cell? p = some v := fun A B => (((Ext.refl w).alloc A).alloc B).cellOf h
theorem first_any (a : Option Addr) (cap : Nat) (fs : List F3) (w : World) (hf : Fxs w a fs) (h0 : 0 < fs.length) : Calls Tryz.prog 67 #[Tr (.slice a fs.length cap)] w fun e w' => e = .returned (FxV (fx fs 0)) ∧ Ext w w' := by
  rcases hf.2 with h | ⟨b, off, rfl, hb⟩
  · rw [h] at h0; simp at h0
  obtain ⟨c0, c1, c2⟩ := hb 0 h0
  rw [Nat.zero_mul, Nat.add_zero] at c0 c1 c2
  have i1 : (0 : Int) < (fs.length : Int) := by omega
  replace c0 := two_on c0
  replace c1 := two_on c1
  replace c2 := two_on c2
  clear hb hf
  go_enter Tryz.func67, Tryz.ntmps67
  go_wp2
  exact bodyPost_ret (v := FxV (fx fs 0)) (by simp [results, Tryz.results67, go_sem]) rfl ⟨rfl, (by repeat (first | exact Ext.refl _ | assumption | apply Ext.alloc | apply Ext.drew | (refine Ext.trans ?_ (by assumption)) | (refine Ext.setNew ?_ (by simp <;> omega) _)))⟩
theorem last_any (a : Option Addr) (cap : Nat) (fs : List F3) (w : World) (hf : Fxs w a fs) (h0 : 0 < fs.length) : Calls Tryz.prog 68 #[Tr (.slice a fs.length cap)] w fun e w' => e = .returned (FxV (fx fs (fs.length - 1))) ∧ Ext w w' := by
  have hm := hf.1
  rcases hf.2 with h | ⟨b, off, rfl, hb⟩
  · rw [h] at h0; simp at h0
  obtain ⟨c0, c1, c2⟩ := hb (fs.length - 1) (by omega)
  have i0 : (0 : Int) ≤ (fs.length : Int) - 1 := by omega
  have i2 : (1 : Int) ≤ (fs.length : Int) := by omega
  have i1 : (fs.length : Int) - 1 < (fs.length : Int) := by omega
  have T0 := wrap_pred h0 hm
  have T1 : ((fs.length : Int) - 1).toNat = fs.length - 1 := by omega
  unfold maxLen at hm
  replace c0 := two_on c0
  replace c1 := two_on c1
  replace c2 := two_on c2
  clear hb hf
  go_enter Tryz.func68, Tryz.ntmps68
  go_wp2
  exact bodyPost_ret (v := FxV (fx fs (fs.length - 1))) (by simp [results, Tryz.results68, go_sem]) rfl ⟨rfl, (by repeat (first | exact Ext.refl _ | assumption | apply Ext.alloc | apply Ext.drew | (refine Ext.trans ?_ (by assumption)) | (refine Ext.setNew ?_ (by simp <;> omega) _)))⟩
theorem fieldT (f : F3) (w : World) : (Instr.field 103 (.agg #[.int .i64 f.t, .int .i64 f.x, .int .i64 f.y]) 0).run Tryz.prog w = .ok (.int .i64 f.t) w := by kernel_rfl
def lastB (fs : List F3) (t : Int) : Bool := inB t (fx fs 0).t (fx fs (fs.length - 1)).t
theorem lastsAt_any (a : Option Addr) (cap : Nat) (fs : List F3) (t : Int) (w : World) (hf : Fxs w a fs) (h0 : 0 < fs.length) : Calls Tryz.prog 176 #[Tr (.slice a fs.length cap), .int .i64 t] w fun e w' => e = .returned (.bool (lastB fs t)) ∧ Ext w w' := by
  have HF := Lib.hid hf
  clear hf
  by_cases h1 : (fx fs 0).t ≤ t
  · have H1 : decide ((fx fs 0).t ≤ t) = true := decide_eq_true h1
    have H := Lib.hid (show lastB fs t = decide (t ≤ (fx fs (fs.length - 1)).t) by unfold lastB inB; simp [h1])
    clear h1
    have hfd := fieldT
    go_enter Tryz.func176, Tryz.ntmps176
    go_wp2_with fail
    refine (first_any _ _ _ _ (HF.out.ext (by repeat (first | exact Ext.refl _ | assumption | apply Ext.alloc | apply Ext.drew | (refine Ext.trans ?_ (by assumption)) | (refine Ext.setNew ?_ (by simp <;> omega) _)))) h0).mono ?_
    rintro e w1 ⟨rfl, h1⟩
    have X1 := Lib.hid (((Ext.refl w).alloc _).trans h1)
    have b1 : w1.cell? ⟨w.heap.size, 0, none⟩ = some (.slice a fs.length cap) := h1.cellOf (boxed 0 rfl rfl)
    clear h1
    go_wp2_with fail
    refine (last_any _ _ _ _ (HF.out.ext (X1.out.trans (by repeat (first | exact Ext.refl _ | assumption | apply Ext.alloc | apply Ext.drew | (refine Ext.trans ?_ (by assumption)) | (refine Ext.setNew ?_ (by simp <;> omega) _))))) h0).mono ?_
    rintro e w2 ⟨rfl, h2⟩
    have X2 := Lib.hid (X1.out.trans h2)
    clear h2
    go_wp2
    go_ret
    exact ⟨ret_bool H.out, X2.out⟩
  · have H1 : decide ((fx fs 0).t ≤ t) = false := decide_eq_false h1
    have H := Lib.hid (show lastB fs t = false from inB_no (fun h => h1 h.1))
    clear h1
    have hfd := fieldT
    go_enter Tryz.func176, Tryz.ntmps176
    go_wp2_with (go_at_call 67; refine (first_any _ _ _ _ (HF.out.ext (by repeat (first | exact Ext.refl _ | assumption | apply Ext.alloc | apply Ext.drew | (refine Ext.trans ?_ (by assumption)) | (refine Ext.setNew ?_ (by simp <;> omega) _)))) h0).mono ?_; rintro e w1 ⟨rfl, h1⟩)
    go_ret
    exact ⟨ret_bool H.out, (by repeat (first | exact Ext.refl _ | assumption | apply Ext.alloc | apply Ext.drew | (refine Ext.trans ?_ (by assumption)) | (refine Ext.setNew ?_ (by simp <;> omega) _)))⟩
theorem lasts_spec (a : Option Addr) (cap : Nat) (fs : List F3) (t : Int) (w : World) (hf : Fxs w a fs) (h0 : 0 < fs.length) : Calls Tryz.prog 152 #[Tr (.slice a fs.length cap), .int .i64 t] w fun e w' => e = .returned (.bool (lastB fs t)) ∧ Ext w w' := by
  have hm := hf.1
  rcases hf.2 with h | ⟨b, off, rfl, hb⟩
  · rw [h] at h0; simp at h0
  obtain ⟨c0, _, _⟩ := hb 0 h0
  rw [Nat.zero_mul, Nat.add_zero] at c0
  obtain ⟨d0, _, _⟩ := hb (fs.length - 1) (by omega)
  have i1 : (0 : Int) < (fs.length : Int) := by omega
  have i2 : (1 : Int) ≤ (fs.length : Int) := by omega
  have i3 : (fs.length : Int) - 1 < (fs.length : Int) := by omega
  have i0 : (0 : Int) ≤ (fs.length : Int) - 1 := by omega
  have T0 := wrap_pred h0 hm
  have T1 : ((fs.length : Int) - 1).toNat = fs.length - 1 := by omega
  unfold maxLen at hm
  clear hb hf
  go_enter Tryz.func152, Tryz.ntmps152
  go_wp2_with fail
  have e0 : ∀ w', Ext (w.alloc (.cells #[.slice (some ⟨b, off, none⟩) fs.length cap] 30)) w' → w'.cell? ⟨w.heap.size, 0, none⟩ = some (.slice (some ⟨b, off, none⟩) fs.length cap) := fun w' h => h.cellOf (boxed 0 rfl rfl)
  have e1 : ∀ w', Ext (w.alloc (.cells #[.slice (some ⟨b, off, none⟩) fs.length cap] 30)) w' → w'.cell? ⟨b, off, none⟩ = some (.int .i64 (fx fs 0).t) := fun w' h => h.cellOf (((Ext.refl _).alloc _).cellOf c0)
  have e2 : ∀ w', Ext (w.alloc (.cells #[.slice (some ⟨b, off, none⟩) fs.length cap] 30)) w' → w'.cell? ⟨b, off + (fs.length - 1) * 3, none⟩ = some (.int .i64 (fx fs (fs.length - 1)).t) := fun w' h => h.cellOf (((Ext.refl _).alloc _).cellOf d0)
  refine wp_region_held_drew (S := (fun w' => Ext (w.alloc (.cells #[.slice (some ⟨b, off, none⟩) fs.length cap] 30)) w')) (by kernel_rfl) (by (try dsimp only); first | go_keep | exact (Ext.refl _).drew | exact Res.new2.drew | exact Res.new4.drew | exact ResB.drew (by assumption) | exact ResC.drew (by assumption) | assumption | exact Ext.drew (by assumption) | exact Res.drew (by assumption)) (fun hHeld => ?_)
  refine Ord.K 0 5 ?_
  refine Ord.K 1 6 ?_
  refine Ord.K 2 7 ?_
  refine Ord.K 3 8 ?_
  refine Ord.K 4 9 ?_
  refine Ord.K 5 10 ?_
  refine Ord.K 6 11 ?_
  refine Ord.K 7 12 ?_
  refine Ord.K 8 13 ?_
  refine Ord.K 9 14 ?_
  refine Ord.K 10 15 ?_
  refine Ord.K 11 16 ?_
  refine Ord.K 12 17 ?_
  refine Ord.K 13 18 ?_
  refine Ord.K 14 19 ?_
  (refine wpAnyH_ready (rs := [15]) (by kernel_rfl) (by simp) ?_; refine AllReadyH.cons rfl (fun K hK => ?_) AllReadyH.nil; go_simp; (go_at_call 65; refine (in_any _ _ _ _).mono ?_; rintro e w1 ⟨rfl, rfl⟩); go_wp2_with fail; (refine hK.out _ _ (by first | assumption | exact Ext.trans (by assumption) hy | exact Res.ext (by assumption) hy | exact ResB.ext (by assumption) hy | exact ResC.ext (by assumption) hy | (go_split_ands; (repeat' apply And.intro) <;> exact Ext.cellOf hy (by assumption))) (fun hHeld => ?_)); clear hK K; (try simp only [Act.put, Ord.a, Ord.b, Ord.c]))
  refine Ord.K 16 4 ?_
  refine wpAnyH_done (by kernel_rfl) ?_ _
  go_wp2
  go_ret
  exact ⟨rfl, ((Ext.refl _).alloc _).trans (by assumption)⟩
end Go.Proofs.YtknelhceaoblhaaGreat.Trk
namespace Go.Proofs.YtknelhceaoblhaaGreat.Crs
open Go.ChangeShapes Go.WideShapes Go.ChangeAt Go.RowKit Go.PlainAid
open Go.Proofs.YtknelhceaoblhaaGreat.Num Go.Proofs.YtknelhceaoblhaaGreat.Kit Go.Proofs.YtknelhceaoblhaaGreat.Pts
open Go.Proofs.YtknelhceaoblhaaGreat.Trk (F3 Fxs Tr trB)
set_option linter.unusedVariables false
set_option linter.unusedSimpArgs false
def RelXB (w : World) (p : Nat → Bool) (n : Nat) (i : Value) (wr : World) : Prop := ∃ k : Nat, i = .int .i64 k ∧ k ≤ n ∧ (∀ j, j < k → p j = true) ∧ Ext w wr
structure T1 where
  a : Option Addr
  c : Nat
  fs : List F3
abbrev TV (t : T1) : Value := .slice t.a t.fs.length t.c
def tk (ts : List T1) (i : Nat) : T1 := ts.getD i ⟨none, 0, []⟩
def Tks (w : World) (a : Option Addr) (ts : List T1) : Prop :=
  ts.length ≤ maxLen ∧ (∀ i, i < ts.length → Fxs w (tk ts i).a (tk ts i).fs) ∧ (ts = [] ∨ ∃ b off, a = some ⟨b, off, none⟩ ∧ ∀ i, i < ts.length → w.cell? ⟨b, off + i, none⟩ = some (TV (tk ts i)))
theorem Tks.ext {w w' : World} {a : Option Addr} {ts : List T1} (h : Tks w a ts) (k : Ext w w') : Tks w' a ts := by
  refine ⟨h.1, fun i hi => (h.2.1 i hi).ext k, ?_⟩
  rcases h.2.2 with h | ⟨b, off, ha, h⟩
  · exact .inl h
  · exact .inr ⟨b, off, ha, fun i hi => k.cellOf (h i hi)⟩
theorem Tks.row {w : World} {a : Option Addr} {ts : List T1} (h : Tks w a ts) (h0 : 0 < ts.length) : ∃ b off, a = some ⟨b, off, none⟩ ∧ ∀ i, i < ts.length → w.cell? ⟨b, off + i, none⟩ = some (TV (tk ts i)) := by
  rcases h.2.2 with e | e
  · rw [e] at h0; simp at h0
  · exact e
theorem Tks.one {w : World} {b : Nat} {t : T1} (h : w.cell? ⟨b, 0, none⟩ = some (TV t)) (hf : Fxs w t.a t.fs) : Tks w (some ⟨b, 0, none⟩) [t] := by
  refine ⟨by unfold maxLen; simp, fun i hi => ?_, .inr ⟨b, 0, rfl, fun i hi => ?_⟩⟩
  · obtain rfl : i = 0 := by simpa using hi
    exact hf
  · obtain rfl : i = 0 := by simpa using hi
    exact h
def tkB (ts : List T1) (i : Nat) : Bool := trB (tk ts i).fs
def tsB (ts : List T1) : Bool := (List.range ts.length).all (tkB ts)
theorem tsB_no {ts : List T1} {j : Nat} (hj : j < ts.length) (h : tkB ts j = false) : tsB ts = false :=
  List.all_eq_false.2 ⟨j, by simpa using hj, by simp [h]⟩
theorem tsB_all {ts : List T1} (h : ∀ j, j < ts.length → tkB ts j = true) : tsB ts = true :=
  List.all_eq_true.2 fun j hj => h j (by simpa using hj)
set_option maxHeartbeats 1000000 in
theorem areValid_any (a : Option Addr) (cap : Nat) (ts : List T1) (w : World) (hf : Tks w a ts) :
    Calls Tryz.prog 56 #[.slice a ts.length cap] w fun e w' => e = .returned (.bool (tsB ts)) ∧ Ext w w' := by
  have hm := hf.1
  unfold maxLen at hm
  have HF := Lib.hid hf
  clear hf
  go_enter Tryz.func56, Tryz.ntmps56
  go_wp2
  go_loopw [7] (fun i wr => RelXB w (tkB ts) ts.length i wr) (fun i _ => ts.length - (intOf i).toNat)
  case atStart => exact ⟨0, rfl, Nat.zero_le _, fun j hj => absurd hj (by omega), Ext.refl _⟩
  case round =>
    obtain ⟨j, rfl, hj, hd, hx⟩ := hrel
    have HD := Lib.hid hd
    have HX := Lib.hid hx
    clear hd hx
    by_cases hj1 : j < ts.length
    · obtain ⟨b, off, rfl, hb⟩ := HF.out.row (by omega)
      have c0 := HX.out.cellOf (hb j hj1)
      have i0 : (0 : Int) ≤ (j : Int) := by omega
      have i1 : (j : Int) < (ts.length : Int) := by omega
      have T7 : IntKind.i64.wrap ((j : Int) + 1) = (j : Int) + 1 := IntWalk.i64_in _ (by omega)
      have hc := Lib.hid (fun w' (h : Ext wr w') => Trk.trackValid_any (tk ts j).a (tk ts j).c (tk ts j).fs w' (((HF.out.2.1 j hj1).ext HX.out).ext h))
      clear hb
      cases h : tkB ts j
      · have H := Lib.hid (tsB_no hj1 h)
        rw [show trB (tk ts j).fs = false from h] at hc
        clear h
        go_wp2_with fail
        refine (hc.out _ ((Ext.refl wr).alloc _)).mono ?_
        rintro e w1 ⟨rfl, hy⟩
        go_wp2
        go_ret
        exact ⟨ret_bool H.out, HX.out.trans (((Ext.refl wr).alloc _).trans hy)⟩
      · have H := Lib.hid h
        rw [show trB (tk ts j).fs = true from h] at hc
        clear h
        go_wp2_with fail
        refine (hc.out _ ((Ext.refl wr).alloc _)).mono ?_
        rintro e w1 ⟨rfl, hy⟩
        have HY := Lib.hid (HX.out.trans (((Ext.refl wr).alloc _).trans hy))
        clear hy
        go_wp2
        go_roundw
        case rel => exact ⟨j + 1, by go_num, by omega, fun x hx => by rcases Nat.lt_or_ge x j with g | g; exact HD.out x g; exact (show x = j by omega) ▸ H.out, HY.out⟩
        case measure => simp [intOf]; omega
    · obtain rfl : j = ts.length := by omega
      have H := Lib.hid (tsB_all HD.out)
      go_wp2
      go_ret
      exact ⟨ret_bool H.out, HX.out⟩
end Go.Proofs.YtknelhceaoblhaaGreat.Crs
namespace Go.Proofs.YtknelhceaoblhaaGreat.Trk
open Go.ChangeShapes Go.WideShapes Go.ChangeAt Go.RowKit
open Go.Proofs.YtknelhceaoblhaaGreat.Num Go.Proofs.YtknelhceaoblhaaGreat.Kit Go.Proofs.YtknelhceaoblhaaGreat.Pts
set_option linter.unusedVariables false
set_option linter.unusedSimpArgs false
def ctI (fs : List F3) (t : Int) : Int := if trB fs = true then (if lastB fs t = true then 0 else 2) else 1
theorem ctI_bad {fs : List F3} {t : Int} (h : trB fs = false) : ctI fs t = 1 := by unfold ctI; rw [h]; simp
theorem ctI_out {fs : List F3} {t : Int} (h : trB fs = true) (g : lastB fs t = false) : ctI fs t = 2 := by unfold ctI; rw [h, g]; simp
theorem ctI_in {fs : List F3} {t : Int} (h : trB fs = true) (g : lastB fs t = true) : ctI fs t = 0 := by unfold ctI; rw [h, g]; simp
theorem checkTime_any (a : Option Addr) (cap : Nat) (fs : List F3) (t : Int) (w : World) (hf : Fxs w a fs) : Calls Tryz.prog 157 #[Tr (.slice a fs.length cap), .int .i64 t] w fun e w' => e = .returned (.int .i64 (ctI fs t)) ∧ Ext w w' := by
  have HF := Lib.hid hf
  clear hf
  cases hv : trB fs
  · have H := Lib.hid (ctI_bad (t := t) hv)
    go_enter Tryz.func157, Tryz.ntmps157
    go_wp2_with (go_at_call 81; refine (trackValid_any _ _ _ _ (HF.out.ext (by repeat (first | exact Ext.refl _ | assumption | apply Ext.alloc | apply Ext.drew | (refine Ext.trans ?_ (by assumption)) | (refine Ext.setNew ?_ (by simp <;> omega) _))))).mono ?_; rw [hv]; rintro e w1 ⟨rfl, h1⟩)
    go_ret
    exact ⟨ret_int H.out, (by repeat (first | exact Ext.refl _ | assumption | apply Ext.alloc | apply Ext.drew | (refine Ext.trans ?_ (by assumption)) | (refine Ext.setNew ?_ (by simp <;> omega) _)))⟩
  · have h0 : 0 < fs.length := by have := (trB_yes hv).1; omega
    cases hl : lastB fs t
    · have H := Lib.hid (ctI_out hv hl)
      go_enter Tryz.func157, Tryz.ntmps157
      go_wp2_with fail
      refine (trackValid_any _ _ _ _ (HF.out.ext (by repeat (first | exact Ext.refl _ | assumption | apply Ext.alloc | apply Ext.drew | (refine Ext.trans ?_ (by assumption)) | (refine Ext.setNew ?_ (by simp <;> omega) _))))).mono ?_
      rw [hv]
      rintro e w1 ⟨rfl, h1⟩
      have X1 := Lib.hid (((Ext.refl w).alloc _).trans h1)
      have b1 : w1.cell? ⟨w.heap.size, 0, none⟩ = some (.slice a fs.length cap) := h1.cellOf (boxed 0 rfl rfl)
      clear h1
      go_wp2_with fail
      refine (lastsAt_any _ _ _ _ _ (HF.out.ext (X1.out.trans (by repeat (first | exact Ext.refl _ | assumption | apply Ext.alloc | apply Ext.drew | (refine Ext.trans ?_ (by assumption)) | (refine Ext.setNew ?_ (by simp <;> omega) _))))) h0).mono ?_
      rw [hl]
      rintro e w2 ⟨rfl, h2⟩
      have X2 := Lib.hid (X1.out.trans h2)
      clear h2
      go_wp2
      go_ret
      exact ⟨ret_int H.out, X2.out⟩
    · have H := Lib.hid (ctI_in hv hl)
      go_enter Tryz.func157, Tryz.ntmps157
      go_wp2_with fail
      refine (trackValid_any _ _ _ _ (HF.out.ext (by repeat (first | exact Ext.refl _ | assumption | apply Ext.alloc | apply Ext.drew | (refine Ext.trans ?_ (by assumption)) | (refine Ext.setNew ?_ (by simp <;> omega) _))))).mono ?_
      rw [hv]
      rintro e w1 ⟨rfl, h1⟩
      have X1 := Lib.hid (((Ext.refl w).alloc _).trans h1)
      have b1 : w1.cell? ⟨w.heap.size, 0, none⟩ = some (.slice a fs.length cap) := h1.cellOf (boxed 0 rfl rfl)
      clear h1
      go_wp2_with fail
      refine (lastsAt_any _ _ _ _ _ (HF.out.ext (X1.out.trans (by repeat (first | exact Ext.refl _ | assumption | apply Ext.alloc | apply Ext.drew | (refine Ext.trans ?_ (by assumption)) | (refine Ext.setNew ?_ (by simp <;> omega) _))))) h0).mono ?_
      rw [hl]
      rintro e w2 ⟨rfl, h2⟩
      have X2 := Lib.hid (X1.out.trans h2)
      clear h2
      go_wp2
      go_ret
      exact ⟨ret_int H.out, X2.out⟩
theorem legCount_any (a : Option Addr) (cap n : Nat) (w : World) (h1 : 1 ≤ n) (hm : n ≤ 1000000) : Calls Tryz.prog 178 #[Tr (.slice a n cap)] w fun e w' => e = .returned (.int .i64 ((n - 1 : Nat) : Int)) ∧ Ext w w' := by
  have E : ((n - 1 : Nat) : Int) = (n : Int) - 1 := by omega
  have T0 : IntKind.i64.wrap ((n : Int) - 1) = (n : Int) - 1 := wrap_pred h1 (by unfold maxLen; omega)
  go_enter Tryz.func178, Tryz.ntmps178
  go_wp2
  go_ret
  exact ⟨ret_int E, (by repeat (first | exact Ext.refl _ | assumption | apply Ext.alloc | apply Ext.drew | (refine Ext.trans ?_ (by assumption)) | (refine Ext.setNew ?_ (by simp <;> omega) _)))⟩
theorem timeOf_any (f : F3) (w : World) : Calls Tryz.prog 179 #[FxV f] w fun e w' => e = .returned (.int .i64 f.t) ∧ Ext w w' := by
  go_enter Tryz.func179, Tryz.ntmps179
  go_wp2
  go_ret
  exact ⟨rfl, (by repeat (first | exact Ext.refl _ | assumption | apply Ext.alloc | apply Ext.drew | (refine Ext.trans ?_ (by assumption)) | (refine Ext.setNew ?_ (by simp <;> omega) _)))⟩
abbrev Ptr (k : Nat) : Value := .pointer (some ⟨k, 0, none⟩)
theorem above_any (b off cap n i k l m : Nat) (f : F3) (t : Int) (w : World) (hi : i < n) (hc : At w b (off + i * 3) f)
    (hk : w.cell? ⟨k, 0, none⟩ = some (.func (.func 179) #[] #[])) (hl : w.cell? ⟨l, 0, none⟩ = some (.slice (some ⟨b, off, none⟩) n cap)) (hm : w.cell? ⟨m, 0, none⟩ = some (.int .i64 t)) :
    Calls Tryz.prog 197 #[.int .i64 i, Ptr k, Ptr l, Ptr m] w fun e w' => e = .returned (.bool (decide (t < f.t))) ∧ Ext w w' := by
  have i0 : (0 : Int) ≤ (i : Int) := by omega
  have i1 : (i : Int) < (n : Int) := by omega
  obtain ⟨c0, c1, c2⟩ := hc
  have e0 : ∀ w', Ext w w' → w'.cell? ⟨b, off + i * 3, none⟩ = some (.int .i64 f.t) := fun w' h => h.cellOf c0
  have e1 : ∀ w', Ext w w' → w'.cell? ⟨b, off + i * 3 + 1, none⟩ = some (.int .i64 f.x) := fun w' h => h.cellOf c1
  have e2 : ∀ w', Ext w w' → w'.cell? ⟨b, off + i * 3 + 2, none⟩ = some (.int .i64 f.y) := fun w' h => h.cellOf c2
  have e3 : ∀ w', Ext w w' → w'.cell? ⟨k, 0, none⟩ = some (.func (.func 179) #[] #[]) := fun w' h => h.cellOf hk
  have e4 : ∀ w', Ext w w' → w'.cell? ⟨l, 0, none⟩ = some (.slice (some ⟨b, off, none⟩) n cap) := fun w' h => h.cellOf hl
  have e5 : ∀ w', Ext w w' → w'.cell? ⟨m, 0, none⟩ = some (.int .i64 t) := fun w' h => h.cellOf hm
  clear c0 c1 c2 hk hl hm
  go_enter Tryz.func197, Tryz.ntmps197
  go_wp2_with fail
  refine wp_region_held_drew (S := (fun w' => Ext w w')) (by kernel_rfl) (by (try dsimp only); first | go_keep | exact (Ext.refl _).drew | exact Res.new2.drew | exact Res.new4.drew | exact ResB.drew (by assumption) | exact ResC.drew (by assumption) | assumption | exact Ext.drew (by assumption) | exact Res.drew (by assumption)) (fun hHeld => ?_)
  refine Ord.K 0 6 ?_
  refine Ord.K 1 7 ?_
  refine Ord.K 2 8 ?_
  refine Ord.K 3 9 ?_
  refine Ord.K 4 10 ?_
  refine Ord.K 6 12 ?_
  (refine wpAnyH_ready (rs := [5]) (by kernel_rfl) (by simp) ?_; refine AllReadyH.cons rfl (fun K hK => ?_) AllReadyH.nil; go_simp; (go_at_call 179; refine (timeOf_any _ _).mono ?_; rintro e w1 ⟨rfl, hy⟩); go_wp2_with fail; (refine hK.out _ _ (by first | assumption | exact Ext.trans (by assumption) hy | exact Res.ext (by assumption) hy | exact ResB.ext (by assumption) hy | exact ResC.ext (by assumption) hy | (go_split_ands; (repeat' apply And.intro) <;> exact Ext.cellOf hy (by assumption))) (fun hHeld => ?_)); clear hK K; (try simp only [Act.put, Ord.a, Ord.b, Ord.c]))
  refine Ord.K 7 13 ?_
  refine Ord.K 8 5 ?_
  refine wpAnyH_done (by kernel_rfl) ?_ _
  go_wp2
  go_ret
  exact ⟨rfl, by assumption⟩
end Go.Proofs.YtknelhceaoblhaaGreat.Trk
namespace Go.Proofs.YtknelhceaoblhaaGreat.Trk
open Go.ChangeShapes Go.WideShapes Go.ChangeAt Go.RowKit
open Go.Proofs.YtknelhceaoblhaaGreat.Num Go.Proofs.YtknelhceaoblhaaGreat.Kit Go.Proofs.YtknelhceaoblhaaGreat.Pts
set_option linter.unusedVariables false
set_option linter.unusedSimpArgs false
def RelS (w : World) (n : Nat) (p : Nat → Bool) (i j : Value) (wr : World) : Prop :=
  ∃ lo hi : Nat, i = .int .i64 lo ∧ j = .int .i64 hi ∧ lo ≤ hi ∧ hi ≤ n ∧ (∀ x, x < lo → p x = false) ∧ (∀ x, hi ≤ x → x < n → p x = true) ∧ Ext w wr
theorem below_no {n k : Nat} {p : Nat → Bool} (hm : ∀ a b, a ≤ b → b < n → p a = true → p b = true) (hk : k < n) (h : p k = false) : ∀ x, x < k + 1 → p x = false := by
  intro x hx
  cases g : p x
  · rfl
  · rw [hm x k (by omega) hk g] at h; cases h
set_option maxHeartbeats 1000000 in
theorem search_any (n : Nat) (p : Nat → Bool) (k l m : Nat) (w : World) (hn : n ≤ 1000000)
    (hf : ∀ w', Ext w w' → ∀ i, i < n → Calls Tryz.prog 197 #[.int .i64 i, Ptr k, Ptr l, Ptr m] w' fun e w'' => e = .returned (.bool (p i)) ∧ Ext w' w'')
    (hmono : ∀ a b, a ≤ b → b < n → p a = true → p b = true) :
    Calls Tryz.prog 196 #[.int .i64 n, .func (.func 197) #[] #[Ptr k, Ptr l, Ptr m]] w fun e w' =>
      ∃ h : Nat, e = .returned (.int .i64 h) ∧ h ≤ n ∧ (∀ i, i < h → p i = false) ∧ (∀ i, h ≤ i → i < n → p i = true) ∧ Ext w w' := by
  have HF := Lib.hid hf
  have HM := Lib.hid hmono
  clear hf hmono
  go_enter Tryz.func196, Tryz.ntmps196
  go_wp2
  go_loopw [5, 6] (fun i j wr => RelS w n p i j wr) (fun i j _ => (intOf j).toNat - (intOf i).toNat)
  case atStart => exact ⟨0, n, rfl, rfl, Nat.zero_le _, Nat.le_refl _, fun x hx => absurd hx (by omega), fun x h1 h2 => absurd h1 (by omega), Ext.refl _⟩
  case round =>
    obtain ⟨lo, hi, rfl, rfl, hlh, hin, hA, hB, hx⟩ := hrel
    have HA := Lib.hid hA
    have HB := Lib.hid hB
    have HX := Lib.hid hx
    clear hA hB hx
    by_cases hlt : lo < hi
    · have hc := HF.out _ HX.out ((lo + hi) / 2) (by omega)
      rw [show (((lo + hi) / 2 : Nat) : Int) = ((lo : Int) + (hi : Int)) / 2 by omega] at hc
      cases hp : p ((lo + hi) / 2) <;> rw [hp] at hc
      · have HP := Lib.hid hp
        clear hp
        go_wp2_with (go_at_call 197; refine hc.mono ?_; rintro e w1 ⟨rfl, hy⟩)
        have HY := Lib.hid (HX.out.trans hy)
        clear hy
        go_roundw
        case rel =>
          exact ⟨(lo + hi) / 2 + 1, hi, by rw [show ((lo : Int) + (hi : Int)) / 2 + 1 = (((lo + hi) / 2 + 1 : Nat) : Int) by omega], rfl, by omega, hin, below_no HM.out (by omega) HP.out, HB.out, HY.out⟩
        case measure => simp [intOf]; omega
      · have HP := Lib.hid hp
        clear hp
        go_wp2_with (go_at_call 197; refine hc.mono ?_; rintro e w1 ⟨rfl, hy⟩)
        have HY := Lib.hid (HX.out.trans hy)
        clear hy
        go_roundw
        case rel =>
          exact ⟨lo, (lo + hi) / 2, rfl, by rw [show ((lo : Int) + (hi : Int)) / 2 = (((lo + hi) / 2 : Nat) : Int) by omega], by omega, by omega, HA.out, fun x hx hxn => HM.out ((lo + hi) / 2) x hx hxn HP.out, HY.out⟩
        case measure => simp [intOf]; omega
    · obtain rfl : hi = lo := by omega
      go_wp2
      go_ret
      exact ⟨hi, rfl, hin, HA.out, HB.out, HX.out⟩
def legUp (fs : List F3) (t : Int) : Nat → Nat
  | 0 => 0
  | n + 1 => if (fx fs n).t ≤ t then n else legUp fs t n
def legOf (fs : List F3) (t : Int) : Nat := legUp fs t (fs.length - 1)
theorem legUp_lt (fs : List F3) (t : Int) : ∀ n, 0 < n → legUp fs t n < n
  | 0, h => absurd h (by omega)
  | n + 1, _ => by
    unfold legUp
    split
    · omega
    · rcases Nat.eq_zero_or_pos n with h | h
      · subst h; simp [legUp]
      · have := legUp_lt fs t n h; omega
theorem legUp_pred (fs : List F3) (t : Int) (h : Nat) (h1 : 1 ≤ h) : ∀ n, h ≤ n → (∀ i, i < h → (fx fs i).t ≤ t) → (∀ i, h ≤ i → i < n → t < (fx fs i).t) → legUp fs t n = h - 1
  | 0, hn, _, _ => absurd hn (by omega)
  | n + 1, hn, ha, hb => by
    unfold legUp
    by_cases e : h = n + 1
    · rw [if_pos (ha n (by omega))]; omega
    · rw [if_neg (by have := hb n (by omega) (by omega); omega)]
      exact legUp_pred fs t h h1 n (by omega) ha (fun i g1 g2 => hb i g1 (by omega))
theorem legUp_at (fs : List F3) (t : Int) (h0 : (fx fs 0).t ≤ t) : ∀ n, (fx fs (legUp fs t n)).t ≤ t
  | 0 => by simpa [legUp] using h0
  | n + 1 => by
    unfold legUp
    split
    · assumption
    · exact legUp_at fs t h0 n
theorem legUp_next (fs : List F3) (t : Int) : ∀ n i, legUp fs t n < i → i < n → t < (fx fs i).t
  | 0, i, _, h => absurd h (by omega)
  | n + 1, i, h, hn => by
    unfold legUp at h
    split at h
    · omega
    · by_cases e : i = n
      · subst e; omega
      · exact legUp_next fs t n i h (by omega)
theorem okB_lt {fs : List F3} {k : Nat} (h : okB fs (k + 1) = true) : (fx fs k).t < (fx fs (k + 1)).t := by
  unfold okB at h
  simp at h
  exact h.2
theorem times_lt {fs : List F3} (h : trB fs = true) (a : Nat) : ∀ b, a < b → b < fs.length → (fx fs a).t < (fx fs b).t
  | 0, hab, _ => absurd hab (by omega)
  | b + 1, hab, hb => by
    have := okB_lt ((trB_yes h).2 (b + 1) hb)
    by_cases e : a = b
    · subst e; exact this
    · have := times_lt h a b (by omega) (by omega); omega
theorem lastAtMost_any (b off cap n : Nat) (fs : List F3) (t : Int) (w : World) (hn : n ≤ 1000000) (hb : ∀ i, i < n → At w b (off + i * 3) (fx fs i)) (hmono : ∀ i j, i ≤ j → j < n → (fx fs i).t ≤ (fx fs j).t) :
    Calls Tryz.prog 177 #[.slice (some ⟨b, off, none⟩) n cap, .int .i64 t, .func (.func 179) #[] #[]] w fun e w' =>
      ∃ h : Nat, e = .returned (.int .i64 ((h : Int) - 1)) ∧ h ≤ n ∧ (∀ i, i < h → (fx fs i).t ≤ t) ∧ (∀ i, h ≤ i → i < n → t < (fx fs i).t) ∧ Ext w w' := by
  have HB := Lib.hid hb
  have HM := Lib.hid hmono
  clear hb hmono
  go_enter Tryz.func177, Tryz.ntmps177
  go_wp2_with fail
  refine (search_any n (fun i => decide (t < (fx fs i).t)) _ _ _ _ hn (fun w' hx i hi => above_any b off cap n i _ _ _ (fx fs i) t w' hi (((HB.out i hi).ext (((Ext.refl _).alloc _).alloc _ |>.alloc _)).ext hx) ?_ ?_ ?_) ?_).mono ?_
  · exact hx.cellOf (boxed 0 rfl (by simp))
  · exact hx.cellOf ((((Ext.refl _).alloc _).alloc _).cellOf (boxed 0 rfl rfl))
  · exact hx.cellOf (((Ext.refl _).alloc _).cellOf (boxed 0 rfl (by simp)))
  · intro i j hij hj h
    simp at h ⊢
    have := HM.out i j hij hj
    omega
  rintro e w1 ⟨h, rfl, hh, ha, hb, hx⟩
  have HX := Lib.hid hx
  have HA := Lib.hid ha
  have HB2 := Lib.hid hb
  clear ha hb hx
  have T0 : IntKind.i64.wrap ((h : Int) - 1) = (h : Int) - 1 := IntWalk.i64_in _ (by omega)
  go_wp2
  go_ret
  exact ⟨h, rfl, hh, fun i hi => by have := HA.out i hi; simp at this; exact this, fun i h1 h2 => by have := HB2.out i h1 h2; simp at this; exact this, (((Ext.refl _).alloc _).alloc _ |>.alloc _).trans HX.out⟩
end Go.Proofs.YtknelhceaoblhaaGreat.Trk
namespace Go.Proofs.YtknelhceaoblhaaGreat.Trk
open Go.ChangeShapes Go.WideShapes Go.ChangeAt Go.RowKit
open Go.Proofs.YtknelhceaoblhaaGreat.Num Go.Proofs.YtknelhceaoblhaaGreat.Kit Go.Proofs.YtknelhceaoblhaaGreat.Pts
set_option linter.unusedVariables false
set_option linter.unusedSimpArgs false
theorem lastB_yes {fs : List F3} {t : Int} (h : lastB fs t = true) : (fx fs 0).t ≤ t ∧ t ≤ (fx fs (fs.length - 1)).t := by simpa [lastB, inB] using h
theorem times_le {fs : List F3} (h : trB fs = true) (i j : Nat) (hij : i ≤ j) (hj : j < fs.length) : (fx fs i).t ≤ (fx fs j).t := by
  by_cases e : i = j
  · subst e; omega
  · have := times_lt h i j (by omega) hj; omega
theorem legAt_any (a : Option Addr) (cap : Nat) (fs : List F3) (t : Int) (w : World) (hf : Fxs w a fs) (hcap : fs.length ≤ cap) (hv : trB fs = true) (hl : lastB fs t = true) :
    Calls Tryz.prog 159 #[Tr (.slice a fs.length cap), .int .i64 t] w fun e w' => e = .returned (.int .i64 (legOf fs t)) ∧ Ext w w' := by
  obtain ⟨⟨h2, h40⟩, _⟩ := trB_yes hv
  have hm := hf.1
  rcases hf.2 with h | ⟨b, off, rfl, hb⟩
  · rw [h] at h2; simp at h2
  have HV := Lib.hid hv
  have HL := Lib.hid hl
  have HB := Lib.hid hb
  clear hf hb hv hl
  have i0 : (0 : Int) ≤ ((fs.length - 1 : Nat) : Int) := by omega
  have i1 : ((fs.length - 1 : Nat) : Int) ≤ (cap : Int) := by omega
  have T1 : (((fs.length - 1 : Nat) : Int)).toNat = fs.length - 1 := by omega
  go_enter Tryz.func159, Tryz.ntmps159
  go_wp2_with fail
  have e0 : ∀ w', Ext (w.alloc (.cells #[.slice (some ⟨b, off, none⟩) fs.length cap] 30)) w' → w'.cell? ⟨w.heap.size, 0, none⟩ = some (.slice (some ⟨b, off, none⟩) fs.length cap) := fun w' h => h.cellOf (boxed 0 rfl rfl)
  refine wp_region_held_drew (S := (fun w' => Ext (w.alloc (.cells #[.slice (some ⟨b, off, none⟩) fs.length cap] 30)) w')) (by kernel_rfl) (by (try dsimp only); first | go_keep | exact (Ext.refl _).drew | exact Res.new2.drew | exact Res.new4.drew | exact ResB.drew (by assumption) | exact ResC.drew (by assumption) | assumption | exact Ext.drew (by assumption) | exact Res.drew (by assumption)) (fun hHeld => ?_)
  refine Ord.K 0 5 ?_
  refine Ord.K 1 6 ?_
  refine Ord.K 2 7 ?_
  refine Ord.K 5 10 ?_
  (refine wpAnyH_ready (rs := [3]) (by kernel_rfl) (by simp) ?_; refine AllReadyH.cons rfl (fun K hK => ?_) AllReadyH.nil; go_simp; (first | (go_at_call 178; refine (legCount_any _ _ _ _ (by omega) (by omega)).mono ?_; rintro e w1 ⟨rfl, hy⟩) | (go_at_call 177; refine (lastAtMost_any b off cap (fs.length - 1) fs t _ (by omega) (fun i hi => ((HB.out i (by omega)).ext ((Ext.refl _).alloc _)).ext (by assumption)) (fun i j hij hj => times_le HV.out i j hij (by omega))).mono ?_; rintro e w2 ⟨h, rfl, hh, ha, hb, hy⟩)); go_wp2_with fail; (refine hK.out _ _ (by first | assumption | exact Ext.trans (by assumption) hy | exact Res.ext (by assumption) hy | exact ResB.ext (by assumption) hy | exact ResC.ext (by assumption) hy | (go_split_ands; (repeat' apply And.intro) <;> exact Ext.cellOf hy (by assumption))) (fun hHeld => ?_)); clear hK K; (try simp only [Act.put, Ord.a, Ord.b, Ord.c]))
  refine Ord.K 4 9 ?_
  (refine wpAnyH_ready (rs := [6]) (by kernel_rfl) (by simp) ?_; refine AllReadyH.cons rfl (fun K hK => ?_) AllReadyH.nil; go_simp; (first | (go_at_call 178; refine (legCount_any _ _ _ _ (by omega) (by omega)).mono ?_; rintro e w1 ⟨rfl, hy⟩) | (go_at_call 177; refine (lastAtMost_any b off cap (fs.length - 1) fs t _ (by omega) (fun i hi => ((HB.out i (by omega)).ext ((Ext.refl _).alloc _)).ext (by assumption)) (fun i j hij hj => times_le HV.out i j hij (by omega))).mono ?_; rintro e w2 ⟨h, rfl, hh, ha, hb, hy⟩)); go_wp2_with fail; (refine hK.out _ _ (by first | assumption | exact Ext.trans (by assumption) hy | exact Res.ext (by assumption) hy | exact ResB.ext (by assumption) hy | exact ResC.ext (by assumption) hy | (go_split_ands; (repeat' apply And.intro) <;> exact Ext.cellOf hy (by assumption))) (fun hHeld => ?_)); clear hK K; (try simp only [Act.put, Ord.a, Ord.b, Ord.c]))
  refine Ord.K 7 4 ?_
  refine wpAnyH_done (by kernel_rfl) ?_ _
  have hh1 : 1 ≤ h := by
    rcases Nat.eq_zero_or_pos h with g | g
    · have := hb 0 (by omega) (by omega); have := (lastB_yes HL.out).1; omega
    · exact g
  have E := Lib.hid (show ((legOf fs t : Nat) : Int) = (h : Int) - 1 by unfold legOf; rw [legUp_pred fs t h hh1 (fs.length - 1) hh ha hb]; omega)
  clear ha hb
  go_wp2
  go_ret
  exact ⟨ret_int E.out, ((Ext.refl _).alloc _).trans (by assumption)⟩
def RelL (w : World) (fs : List F3) (t : Int) (k i : Value) (wr : World) : Prop := ∃ n : Nat, i = .int .i64 n ∧ k = .int .i64 (legUp fs t n) ∧ n ≤ fs.length - 1 ∧ Ext w wr
theorem leg_spec (a : Option Addr) (cap : Nat) (fs : List F3) (t : Int) (w : World) (hf : Fxs w a fs) (h1 : 1 ≤ fs.length) (h40 : fs.length ≤ 1000000) :
    Calls Tryz.prog 129 #[Tr (.slice a fs.length cap), .int .i64 t] w fun e w' => e = .returned (.int .i64 (legOf fs t)) ∧ Ext w w' := by
  rcases hf.2 with h | ⟨b, off, rfl, hb⟩
  · rw [h] at h1; simp at h1
  have HB := Lib.hid hb
  clear hf hb
  go_enter Tryz.func129, Tryz.ntmps129
  go_wp2
  go_loopw [5, 6] (fun k i wr => RelL (w.alloc (.cells #[.slice (some ⟨b, off, none⟩) fs.length cap] 30)) fs t k i wr) (fun k i _ => fs.length - (intOf i).toNat)
  case atStart => exact ⟨0, rfl, rfl, Nat.zero_le _, Ext.refl _⟩
  case round =>
    obtain ⟨n, rfl, rfl, hn, hx⟩ := hrel
    have HX := Lib.hid hx
    have bx : wr.cell? ⟨w.heap.size, 0, none⟩ = some (.slice (some ⟨b, off, none⟩) fs.length cap) := hx.cellOf (boxed 0 rfl rfl)
    clear hx
    have T0 : IntKind.i64.wrap ((n : Int) + 1) = (n : Int) + 1 := IntWalk.i64_in _ (by omega)
    by_cases hn1 : n + 1 < fs.length
    · obtain ⟨c0, _, _⟩ := ((HB.out n (by omega)).ext ((Ext.refl _).alloc _)).ext HX.out
      have i0 : (0 : Int) ≤ (n : Int) := by omega
      have i1 : (n : Int) < (fs.length : Int) := by omega
      have z0 : decide ((n : Int) + 1 < (fs.length : Int)) = true := decide_eq_true (by omega)
      by_cases ht : (fx fs n).t ≤ t
      · have H := Lib.hid (show legUp fs t (n + 1) = n by rw [legUp, if_pos ht])
        go_wp2
        go_roundw
        case rel => exact ⟨n + 1, by go_num, by rw [H.out], by omega, HX.out⟩
        case measure => simp [intOf]; omega
      · have H := Lib.hid (show legUp fs t (n + 1) = legUp fs t n by rw [legUp, if_neg ht])
        have z1 : decide ((fx fs n).t ≤ t) = false := decide_eq_false ht
        go_wp2
        go_roundw
        case rel => exact ⟨n + 1, by go_num, by rw [H.out], by omega, HX.out⟩
        case measure => simp [intOf]; omega
    · have z0 : decide ((n : Int) + 1 < (fs.length : Int)) = false := decide_eq_false (by omega)
      obtain rfl : n = fs.length - 1 := by omega
      go_wp2
      go_ret
      exact ⟨rfl, ((Ext.refl _).alloc _).trans HX.out⟩
def lgI (fs : List F3) (t : Int) : Int := if ctI fs t = 0 then (legOf fs t : Int) else 0
theorem legAt_spec (a : Option Addr) (cap : Nat) (fs : List F3) (t : Int) (w : World) (hf : Fxs w a fs) :
    Calls Tryz.prog 127 #[Tr (.slice a fs.length cap), .int .i64 t] w fun e w' => e = .returned (.tuple #[.int .i64 (lgI fs t), .int .i64 (ctI fs t)]) ∧ Ext w w' := by
  have HF := Lib.hid hf
  clear hf
  cases hv : trB fs
  · have H := Lib.hid (ctI_bad (t := t) hv)
    have G := Lib.hid (show lgI fs t = 0 by unfold lgI; rw [H.out]; rfl)
    go_enter Tryz.func127, Tryz.ntmps127
    go_wp2_with (go_at_call 52; refine (isTrack_spec _ _ _ _ (HF.out.ext (by repeat (first | exact Ext.refl _ | assumption | apply Ext.alloc | apply Ext.drew | (refine Ext.trans ?_ (by assumption)) | (refine Ext.setNew ?_ (by simp <;> omega) _))))).mono ?_; rw [hv]; rintro e w1 ⟨rfl, h1⟩)
    rw [G.out, H.out]
    go_ret2
    exact ⟨rfl, (by repeat (first | exact Ext.refl _ | assumption | apply Ext.alloc | apply Ext.drew | (refine Ext.trans ?_ (by assumption)) | (refine Ext.setNew ?_ (by simp <;> omega) _)))⟩
  obtain ⟨⟨h2, h40⟩, _⟩ := trB_yes hv
  cases hl : lastB fs t
  · have H := Lib.hid (ctI_out hv hl)
    have G := Lib.hid (show lgI fs t = 0 by unfold lgI; rw [H.out]; rfl)
    go_enter Tryz.func127, Tryz.ntmps127
    go_wp2_with fail
    refine (isTrack_spec _ _ _ _ (HF.out.ext (by repeat (first | exact Ext.refl _ | assumption | apply Ext.alloc | apply Ext.drew | (refine Ext.trans ?_ (by assumption)) | (refine Ext.setNew ?_ (by simp <;> omega) _))))).mono ?_
    rw [hv]
    rintro e w1 ⟨rfl, h1⟩
    have X1 := Lib.hid (((Ext.refl w).alloc _).trans h1)
    have b1 : w1.cell? ⟨w.heap.size, 0, none⟩ = some (.slice a fs.length cap) := h1.cellOf (boxed 0 rfl rfl)
    clear h1
    go_wp2_with fail
    refine (lasts_spec _ _ _ _ _ (HF.out.ext (X1.out.trans (by repeat (first | exact Ext.refl _ | assumption | apply Ext.alloc | apply Ext.drew | (refine Ext.trans ?_ (by assumption)) | (refine Ext.setNew ?_ (by simp <;> omega) _))))) (by omega)).mono ?_
    rw [hl]
    rintro e w2 ⟨rfl, h2⟩
    have X2 := Lib.hid (X1.out.trans h2)
    clear h2
    go_wp2
    rw [G.out, H.out]
    go_ret2
    exact ⟨rfl, X2.out⟩
  · have H := Lib.hid (ctI_in hv hl)
    have G := Lib.hid (show lgI fs t = (legOf fs t : Int) by unfold lgI; rw [H.out]; rfl)
    go_enter Tryz.func127, Tryz.ntmps127
    go_wp2_with fail
    refine (isTrack_spec _ _ _ _ (HF.out.ext (by repeat (first | exact Ext.refl _ | assumption | apply Ext.alloc | apply Ext.drew | (refine Ext.trans ?_ (by assumption)) | (refine Ext.setNew ?_ (by simp <;> omega) _))))).mono ?_
    rw [hv]
    rintro e w1 ⟨rfl, h1⟩
    have X1 := Lib.hid (((Ext.refl w).alloc _).trans h1)
    have b1 : w1.cell? ⟨w.heap.size, 0, none⟩ = some (.slice a fs.length cap) := h1.cellOf (boxed 0 rfl rfl)
    clear h1
    go_wp2_with fail
    refine (lasts_spec _ _ _ _ _ (HF.out.ext (X1.out.trans (by repeat (first | exact Ext.refl _ | assumption | apply Ext.alloc | apply Ext.drew | (refine Ext.trans ?_ (by assumption)) | (refine Ext.setNew ?_ (by simp <;> omega) _))))) (by omega)).mono ?_
    rw [hl]
    rintro e w2 ⟨rfl, h2⟩
    have X2 := Lib.hid (X1.out.trans h2)
    have b2 := h2.cellOf b1
    clear h2 b1 X1
    go_wp2_with fail
    refine (leg_spec _ _ _ _ _ (HF.out.ext (X2.out.trans (by repeat (first | exact Ext.refl _ | assumption | apply Ext.alloc | apply Ext.drew | (refine Ext.trans ?_ (by assumption)) | (refine Ext.setNew ?_ (by simp <;> omega) _))))) (by omega) (by omega)).mono ?_
    rintro e w3 ⟨rfl, h3⟩
    have X3 := Lib.hid (X2.out.trans h3)
    clear h3
    go_wp2
    rw [G.out, H.out]
    go_ret2
    exact ⟨rfl, X3.out⟩
end Go.Proofs.YtknelhceaoblhaaGreat.Trk
