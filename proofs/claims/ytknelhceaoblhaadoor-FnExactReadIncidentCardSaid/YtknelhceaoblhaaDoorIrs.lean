/- Reading the text of an incident (chapter 12): spec. -/
import Derived.Test.YtknelhceaoblhaaDoorIrx
import Derived.Test.YtknelhceaoblhaaDoorWrs
import Derived.Deep.DeepCutAuto
namespace Go.Proofs.YtknelhceaoblhaaDoor.Irx
open Go.ChangeShapes Go.WideShapes Go.ChangeAt Go.RowKit Go.PlainAid
open Go.Proofs.YtknelhceaoblhaaDoor.Num Go.Proofs.YtknelhceaoblhaaDoor.Kit Go.Proofs.YtknelhceaoblhaaDoor.Txt Go.Proofs.YtknelhceaoblhaaDoor.TxtMath Go.Proofs.YtknelhceaoblhaaDoor.RulT Go.Proofs.YtknelhceaoblhaaDoor.IncT Go.Proofs.YtknelhceaoblhaaDoor.Itx Go.Proofs.YtknelhceaoblhaaDoor.Crs
open Go.Proofs.YtknelhceaoblhaaDoor.Iv (I5 V5 L5)
open Go.Proofs.YtknelhceaoblhaaDoor.Rtx (words_spec rw_len)
open Go.Proofs.YtknelhceaoblhaaDoor.Wrs (RowS cellsS cutB split_ref)
set_option linter.unusedVariables false
set_option linter.unusedSimpArgs false

theorem valueB_any (l : List UInt8) (w : World) (hl : l.length ≤ 2000000) : Calls Tryd.prog 28 #[St l] w fun e w' => e = .returned (.tuple #[.int .i64 (vR l), .bool (vOk l)]) ∧ Ext w w' := by
  cases l with
  | nil => exact value_nil w
  | cons c r =>
    by_cases h : c = 45
    · subst h; exact value_signed r w (by simp at hl; omega)
    · exact value_plain (c :: r) c w (by omega) (by simp) rfl h

theorem cutB_word (b : UInt8) : ∀ (l : List UInt8) (m : List UInt8), m ∈ cutB b l → m.length ≤ l.length
  | [], m, h => by simp [cutB] at h; subst h; simp
  | c :: r, m, h => by
    by_cases hc : c = b
    · have e : cutB b (c :: r) = [] :: cutB b r := by rw [cutB, if_pos hc]
      rw [e] at h
      rcases List.mem_cons.1 h with rfl | h
      · simp
      · have := cutB_word b r m h
        simp; omega
    · obtain ⟨a, t, hx⟩ : ∃ a t, cutB b r = a :: t := by
        have := (Wrs.cutB_len b r).1
        cases hq : cutB b r with
        | nil => rw [hq] at this; simp at this
        | cons a t => exact ⟨a, t, rfl⟩
      rw [Wrs.cutB_cons hc hx] at h
      rcases List.mem_cons.1 h with rfl | h
      · have := cutB_word b r a (by rw [hx]; simp)
        simp; omega
      · have := cutB_word b r m (by rw [hx]; simp [h])
        simp; omega
theorem rs_slice {w : World} {base : Nat} {v : Value} {ws : List (List UInt8)} (h : RowS w base v ws) : ∃ a cap, v = .slice a ws.length cap := by
  rcases h.2 with ⟨e, h0⟩ | ⟨g, cap, cur, rfl, hb, hg, hc, hm, hs, ht⟩
  · exact ⟨none, 0, by rw [e, h0]⟩
  · exact ⟨_, _, rfl⟩
theorem rs_done {n : Nat} {w F : World} {tmps : Array Value} {a b c d e : Int} {k : Bool} (B : Box F n [.int .i64 a, .int .i64 b, .int .i64 c, .int .i64 d, .int .i64 e]) (hC : Ext w F) (h2 : tmps[2]? = some (.pointer (some ⟨n, 0, none⟩))) (h3 : tmps[3]? = some (.bool k)) (x : I5) (C : Bool) (hx : x = ⟨a, b, c, d, e⟩) (hK : C = k) :
    bodyPost Tryd.prog Tryd.f12 (fun e w' => e = .returned (.tuple #[x.v, .bool C]) ∧ Ext w w') Exit.ret ⟨tmps, []⟩ F := by
  subst hx; subst hK
  obtain ⟨⟨g0, g1, g2, g3, g4⟩, _⟩ := B.five
  exact bodyPost_ret (v := .tuple #[V5 a b c d e, .bool C]) (by simp [results, Tryd.results12, go_sem, h2, h3, g0, g1, g2, g3, g4]) rfl ⟨rfl, hC⟩

/-- The reason behind j words of the loop. -/
def sj (W : List UInt8) : Nat → Int
  | 0 => 5
  | j + 1 => if rwW ((j : Int) + 1) = W then (j : Int) + 1 else sj W j
theorem sj_four (W : List UInt8) : sj W 4 = sxN W := by
  have e1 : rwW (((0 : Nat) : Int) + 1) = wTurning := rfl
  have e2 : rwW (((1 : Nat) : Int) + 1) = wPortR := rfl
  have e3 : rwW (((2 : Nat) : Int) + 1) = wAstern := rfl
  have e4 : rwW (((3 : Nat) : Int) + 1) = wWindward := rfl
  unfold sj sj sj sj sj sxN
  rw [e1, e2, e3, e4]
  by_cases h1 : W = wTurning
  · subst h1; decide
  by_cases h2 : W = wPortR
  · subst h2; decide
  by_cases h3 : W = wAstern
  · subst h3; decide
  by_cases h4 : W = wWindward
  · subst h4; decide
  rw [if_neg (fun e => h4 e.symm), if_neg (fun e => h3 e.symm), if_neg (fun e => h2 e.symm), if_neg (fun e => h1 e.symm), if_neg h1, if_neg h2, if_neg h3, if_neg h4]
theorem is4 (T F S R : List UInt8) : irS [T, F, S, R] = ⟨(rdS T).1, vR F, vR S, -1, 5⟩ := rfl
theorem is5 (T F S K R : List UInt8) : irS [T, F, S, K, R] = ⟨(rdS T).1, vR F, vR S, vR K, sxN R⟩ := rfl
theorem ig4 (T F S R : List UInt8) : irG [T, F, S, R] = ((rdS T).2 && (vOk F && vOk S)) := rfl
theorem ig5 (T F S K R : List UInt8) : irG [T, F, S, K, R] = ((rdS T).2 && (vOk F && vOk S)) := rfl

theorem wpAnyH_narrow {P : Program} {md : Region.Mode} {ops : Array Oper} {Q : Exit → Act → World → Prop} {S S' : World → Prop} (h : ∀ w, S' w → S w) : ∀ (fuel : Nat) (listed : Array Bool) (a : Act) (w : World), wpAnyH P md ops Q S' fuel listed a w → wpAnyH P md ops Q S fuel listed a w
  | 0, _, _, _, H => H
  | fuel + 1, _, _, _, H => ⟨H.1, fun i hi => wpOp_mono (fun a' w' h' => ⟨h _ h'.1, wpAnyH_narrow h fuel _ a' w' h'.2⟩) (H.2 i hi)⟩
def RelIr (w4 : World) (n : Nat) (t f s k : Int) (R : List UInt8) (i : Value) (wr : World) : Prop := ∃ j : Nat, i = .int .i64 j ∧ j ≤ 4 ∧ Box wr n [.int .i64 t, .int .i64 f, .int .i64 s, .int .i64 k, .int .i64 (sj R j)] ∧ Ext w4 wr

set_option maxRecDepth 100000 in
set_option maxHeartbeats 8000000 in
theorem readIncident_spec (l : List UInt8) (w : World) (hl : l.length ≤ 2000000) :
    Calls Tryd.prog 12 #[St l] w fun e w' => e = .returned (.tuple #[(irX l).v, .bool (irB l)]) ∧ Ext w w' := by
  obtain ⟨W0, hW0⟩ : ∃ W0, W0 = w.alloc (.cells #[.int .i64 0, .int .i64 0, .int .i64 0, .int .i64 0, .int .i64 0] 25) := ⟨_, rfl⟩
  have hX : Ext w W0 := hW0 ▸ (Ext.refl w).alloc _
  have B0 := Lib.hid (show Box W0 w.heap.size [.int .i64 0, .int .i64 0, .int .i64 0, .int .i64 0, .int .i64 0] from hW0 ▸ Box.new5 rfl)
  have KS := Lib.hid (fun w => split_ref l 32 w hl)
  have HNO := Lib.hid (fun h => ix_no (is_no (l := l) h))
  have HYES := Lib.hid (fun h g => ix_yes (is_yes (l := l) h g))
  have HW := Lib.hid (fun m (h : m ∈ cutB 32 l) => Nat.le_trans (cutB_word 32 l m h) hl)
  generalize cutB 32 l = ws at *
  go_enter Tryd.func12, Tryd.ntmps12
  go_wp2_with fail
  rw [← hW0]
  clear hW0
  refine (KS.out _).mono ?_
  rintro e w1 ⟨v, rfl, hR, hz⟩
  by_cases hn : ws.length = 4 ∨ ws.length = 5
  rotate_left
  · have HN := Lib.hid (HNO.out (fun h => hn h.1))
    obtain ⟨a, cap, rfl⟩ := rs_slice hR
    have b4 : ((ws.length : Int) != 4) = true := by simp; omega
    have b5 : ((ws.length : Int) != 5) = true := by simp; omega
    obtain ⟨⟨r0, r1, r2, r3, r4⟩, s0, s1, s2, s3, s4⟩ := (B0.out.ext hz).five
    go_wp2
    exact rs_done (B0.out.ext hz).set5 ((((((hX.trans hz).setNew (by simp) _).setNew (by simp) _).setNew (by simp) _).setNew (by simp) _).setNew (by simp) _) rfl rfl _ _ HN.out.1 HN.out.2
  have HH := Lib.hid hn
  obtain ⟨g, cap, rfl, hg, hc, hcell⟩ := Itx.rs_cells hR (by omega)
  have cw : ∀ (j : Nat) (m : List UInt8), ws[j]? = some m → w1.cell? ⟨g, j, none⟩ = some (St m) := fun j m h => by
    have := hcell j ⟨m.toArray⟩ (by rw [List.getElem?_map, h]; rfl)
    rwa [Nat.zero_add] at this
  have HL := Lib.hid (fun (j : Nat) (m : List UInt8) (h : ws[j]? = some m) => HW.out m (List.mem_of_getElem? h))
  clear hcell hR hg
  rcases hn with h4 | h5
  · obtain ⟨T, F, S, R, rfl⟩ : ∃ T F S R, ws = [T, F, S, R] := by
      match ws, h4 with
      | [a, b, c, d], _ => exact ⟨a, b, c, d, rfl⟩
    have c0 := cw 0 T rfl
    have c1 := cw 1 F rfl
    have c2 := cw 2 S rfl
    have lT := HL.out 0 T rfl
    have lF := HL.out 1 F rfl
    have lS := HL.out 2 S rfl
    clear cw h4
    have n4 : (([T, F, S, R] : List (List UInt8)).length : Int) = 4 := rfl
    have HS := Lib.hid (is4 T F S R)
    have HG := Lib.hid (ig4 T F S R)
    have KT := Lib.hid (fun w => readTime_spec T w lT)
    have KF := Lib.hid (fun w => valueB_any F w lF)
    have KV := Lib.hid (fun w => valueB_any S w lS)
    generalize irS [T, F, S, R] = x at *
    generalize irG [T, F, S, R] = gd at *
    generalize (rdS T).1 = t at *
    generalize (rdS T).2 = o1 at *
    generalize vR F = f at *
    generalize vOk F = o2 at *
    generalize vR S = s at *
    generalize vOk S = o3 at *
    clear lT lF lS HL HW KS
    go_wp2_with fail
    refine (KT.out _).mono ?_
    rintro e w2 ⟨rfl, hy⟩
    replace c1 := hy.cellOf c1
    replace c2 := hy.cellOf c2
    replace hz := hz.trans hy
    clear hy c0
    go_wp2_with fail
    refine (KF.out _).mono ?_
    rintro e w3 ⟨rfl, hy⟩
    replace c2 := hy.cellOf c2
    replace hz := hz.trans hy
    clear hy c1
    go_wp2_with fail
    refine (KV.out _).mono ?_
    rintro e w4 ⟨rfl, hy⟩
    replace hz := hz.trans hy
    clear hy c2
    obtain ⟨W5, hW5⟩ : ∃ W5, W5 = w4.alloc (.cells #[.int .i64 t, .int .i64 f, .int .i64 s, .int .i64 (-1), .int .i64 5] 25) := ⟨_, rfl⟩
    have h5 : Ext w4 W5 := hW5 ▸ (Ext.refl w4).alloc _
    have B5 := Lib.hid (show Box W5 w4.heap.size [.int .i64 t, .int .i64 f, .int .i64 s, .int .i64 (-1), .int .i64 5] from hW5 ▸ Box.new5 rfl)
    replace hz := hz.trans h5
    clear h5
    go_upto_region 15 with fail
    rw [← hW5]
    clear hW5
    cases hgd : (o1 && (o2 && o3))
    · have HN := Lib.hid (HNO.out (fun h => by have := HG.out.symm.trans h.2.1; rw [hgd] at this; cases this))
      obtain ⟨⟨r0, r1, r2, r3, r4⟩, s0, s1, s2, s3, s4⟩ := (B0.out.ext hz).five
      rcases (show o1 = false ∨ (o1 = true ∧ o2 = false) ∨ (o1 = true ∧ o2 = true ∧ o3 = false) by cases o1 <;> cases o2 <;> cases o3 <;> simp_all) with rfl | ⟨rfl, rfl⟩ | ⟨rfl, rfl, rfl⟩
      all_goals
        clear hgd
        go_wp2
        exact rs_done (B0.out.ext hz).set5 ((((((hX.trans hz).setNew (by simp) _).setNew (by simp) _).setNew (by simp) _).setNew (by simp) _).setNew (by simp) _) rfl rfl _ _ HN.out.1 HN.out.2
    · obtain ⟨rfl, rfl, rfl⟩ : o1 = true ∧ o2 = true ∧ o3 = true := by simpa using hgd
      clear hgd
      have KX := Lib.hid (fun w => incText_spec ⟨t, f, s, (-1), 5⟩ w)
      obtain ⟨⟨k0, k1, k2, k3, k4⟩, _⟩ := B5.out.five
      by_cases ht : itT ⟨t, f, s, (-1), 5⟩ = l
      · have HY := Lib.hid (HYES.out HH.out (by rw [HS.out]; exact ht))
        have HT := Lib.hid ht
        clear ht
        go_wp2_with fail
        refine (KX.out _).mono ?_
        rintro e wx ⟨rfl, hy⟩
        replace B5 := Lib.hid (B5.out.ext hy)
        replace hz := hz.trans hy
        clear hy k0 k1 k2 k3 k4
        rw [HT.out]
        obtain ⟨⟨k0, k1, k2, k3, k4⟩, _⟩ := B5.out.five
        obtain ⟨⟨r0, r1, r2, r3, r4⟩, s0, s1, s2, s3, s4⟩ := (B0.out.ext hz).five
        go_wp2
        exact rs_done (B0.out.ext hz).set5 ((((((hX.trans hz).setNew (by simp) _).setNew (by simp) _).setNew (by simp) _).setNew (by simp) _).setNew (by simp) _) rfl rfl _ _ (HY.out.1.trans HS.out) HY.out.2
      · have HN := Lib.hid (HNO.out (fun h => ht (by rw [← HS.out]; exact h.2.2)))
        have hne : (itT ⟨t, f, s, (-1), 5⟩ == l) = false := beq_eq_false_iff_ne.2 ht
        clear ht
        generalize itT ⟨t, f, s, (-1), 5⟩ = Tx at *
        go_wp2_with fail
        refine (KX.out _).mono ?_
        rintro e wx ⟨rfl, hy⟩
        replace hz := hz.trans hy
        clear hy k0 k1 k2 k3 k4
        obtain ⟨⟨r0, r1, r2, r3, r4⟩, s0, s1, s2, s3, s4⟩ := (B0.out.ext hz).five
        go_wp2
        exact rs_done (B0.out.ext hz).set5 ((((((hX.trans hz).setNew (by simp) _).setNew (by simp) _).setNew (by simp) _).setNew (by simp) _).setNew (by simp) _) rfl rfl _ _ HN.out.1 HN.out.2
  · obtain ⟨T, F, S, K, R, rfl⟩ : ∃ T F S K R, ws = [T, F, S, K, R] := by
      match ws, h5 with
      | [a, b, c, d, e], _ => exact ⟨a, b, c, d, e, rfl⟩
    have c0 := cw 0 T rfl
    have c1 := cw 1 F rfl
    have c2 := cw 2 S rfl
    have c3 := cw 3 K rfl
    have c4 := cw 4 R rfl
    have lT := HL.out 0 T rfl
    have lF := HL.out 1 F rfl
    have lS := HL.out 2 S rfl
    have lK := HL.out 3 K rfl
    clear cw h5
    have n5 : (([T, F, S, K, R] : List (List UInt8)).length : Int) = 5 := rfl
    have HS := Lib.hid (is5 T F S K R)
    have HG := Lib.hid (ig5 T F S K R)
    have KT := Lib.hid (fun w => readTime_spec T w lT)
    have KF := Lib.hid (fun w => valueB_any F w lF)
    have KV := Lib.hid (fun w => valueB_any S w lS)
    have KU := Lib.hid (fun w => valueB_any K w lK)
    have H4 := Lib.hid (sj_four R)
    generalize irS [T, F, S, K, R] = x at *
    generalize irG [T, F, S, K, R] = gd at *
    generalize (rdS T).1 = t at *
    generalize (rdS T).2 = o1 at *
    generalize vR F = f at *
    generalize vOk F = o2 at *
    generalize vR S = s at *
    generalize vOk S = o3 at *
    generalize vR K = k at *
    generalize vOk K = o4 at *
    generalize sxN R = rr at *
    clear lT lF lS lK HL HW KS
    go_wp2_with fail
    refine (KT.out _).mono ?_
    rintro e w2 ⟨rfl, hy⟩
    replace c1 := hy.cellOf c1
    replace c2 := hy.cellOf c2
    replace c3 := hy.cellOf c3
    replace c4 := hy.cellOf c4
    replace hz := hz.trans hy
    clear hy c0
    go_wp2_with fail
    refine (KF.out _).mono ?_
    rintro e w3 ⟨rfl, hy⟩
    replace c2 := hy.cellOf c2
    replace c3 := hy.cellOf c3
    replace c4 := hy.cellOf c4
    replace hz := hz.trans hy
    clear hy c1
    go_wp2_with fail
    refine (KV.out _).mono ?_
    rintro e w4 ⟨rfl, hy⟩
    replace c3 := hy.cellOf c3
    replace c4 := hy.cellOf c4
    replace hz := hz.trans hy
    clear hy c2
    obtain ⟨W5, hW5⟩ : ∃ W5, W5 = w4.alloc (.cells #[.int .i64 t, .int .i64 f, .int .i64 s, .int .i64 (-1), .int .i64 5] 25) := ⟨_, rfl⟩
    have h5 : Ext w4 W5 := hW5 ▸ (Ext.refl w4).alloc _
    have B5 := Lib.hid (show Box W5 w4.heap.size [.int .i64 t, .int .i64 f, .int .i64 s, .int .i64 (-1), .int .i64 5] from hW5 ▸ Box.new5 rfl)
    have c5 := ((Ext.refl w4).alloc (.cells #[.int .i64 t, .int .i64 f, .int .i64 s, .int .i64 (-1), .int .i64 5] 25)).cellOf c3
    clear c3
    go_wp2_with fail
    rw [← hW5]
    clear hW5
    refine (KU.out _).mono ?_
    rintro e w6 ⟨rfl, hy⟩
    replace B5 := Lib.hid (B5.out.ext hy)
    replace h5 := h5.trans hy
    clear hy c5
    have HC4 := Lib.hid c4
    obtain ⟨⟨k0, k1, k2, k3, k4⟩, u0, u1, u2, u3, u4⟩ := B5.out.five
    clear c4
    go_wp2
    go_loopw [12] (fun i wr => RelIr w4 w4.heap.size t f s k R i wr) (fun i _ => 4 - (intOf i).toNat)
    case atStart => exact ⟨0, rfl, by omega, B5.out.set 3 (by simp) _, h5.setNew (by simp) _⟩
    case round =>
      obtain ⟨j, rfl, hj, hB, hx⟩ := hrel
      have HB := Lib.hid hB
      have HX := Lib.hid hx
      clear hB hx
      have T7 : IntKind.i64.wrap ((j : Int) + 1) = (j : Int) + 1 := IntWalk.i64_in _ (by omega)
      by_cases hj1 : j < 4
      · have j0 : (0 : Int) ≤ (j : Int) := by omega
        have j4 : (j : Int) < 4 := by omega
        have j5 : (j : Int) < 5 := by omega
        have q1 : (1 : Int) ≤ (j : Int) + 1 := by omega
        have q5 : (j : Int) + 1 ≤ 5 := by omega
        have Tj : ((j : Int) + 1 - 1).toNat = j := by omega
        have g4 : ∀ w', Ext wr w' → w'.cell? ⟨g, 4, none⟩ = some (St R) := fun w' h => h.cellOf (HX.out.cellOf HC4.out)
        go_wp2_with fail
        refine wp_region_held_drew (S := (fun w' => Ext wr w')) (by kernel_rfl) (by (try dsimp only); first | go_keep | exact (Ext.refl _).drew) (fun hHeld => ?_)
        refine Ord.K 1 65 ?_
        refine Ord.K 4 68 ?_
        refine Ord.K 5 69 ?_
        refine Ord.K 6 70 ?_
        (refine wpAnyH_ready (rs := [0]) (by kernel_rfl) (by simp) ?_; refine AllReadyH.cons rfl (fun K hK => ?_) AllReadyH.nil; go_simp; (go_at_call 25; refine (words_spec _).mono ?_; rintro e w7 ⟨rfl, hw, hy⟩; have hw2 := hw _ q1 q5; rw [Tj] at hw2; have cj := fun (w' : World) (h : Ext w7 w') => h.cellOf hw2; clear hw); go_wp2_with fail; (refine hK.out _ _ (by first | assumption | exact Ext.trans (by assumption) hy) (fun hHeld => ?_)); clear hK K; (try simp only [Act.put, Ord.a, Ord.b, Ord.c]))
        have hw7 : Ext wr w7 := hHeld
        have hr7 := Ext.refl w7
        have cj2 : ∀ w', Ext w7 w' → w'.cell? ⟨wr.heap.size, j, none⟩ = some (St (rwW ((j : Int) + 1))) := cj
        clear cj
        refine wpAnyH_narrow (S' := fun w' => Ext w7 w') (fun w' h => hw7.trans h) _ _ _ _ ?_
        refine Ord.K 2 66 ?_
        refine Ord.K 3 67 ?_
        refine Ord.K 7 71 ?_
        refine wpAnyH_done (by kernel_rfl) ?_ _
        have HB7 := Lib.hid (HB.out.ext hw7)
        have HX7 := Lib.hid (HX.out.trans hw7)
        clear hw7 hr7 hy hw2 cj2 g4 hHeld
        by_cases he : rwW ((j : Int) + 1) = R
        · have HJ := Lib.hid (show sj R (j + 1) = (j : Int) + 1 from if_pos he)
          obtain ⟨⟨k0, k1, k2, k3, k4⟩, u0, u1, u2, u3, u4⟩ := HB7.out.five
          rw [he]
          clear he
          have hee : (R == R) = true := beq_self_eq_true R
          go_wp2
          go_roundw
          case rel => exact ⟨j + 1, by go_num, by omega, by rw [HJ.out]; exact HB7.out.set 4 (by simp) _, HX7.out.setNew (by simp) _⟩
          case measure => simp [intOf]; omega
          all_goals (rename_i h; exact absurd h (by simp))
        · have HJ := Lib.hid (show sj R (j + 1) = sj R j from if_neg he)
          have hne : (rwW ((j : Int) + 1) == R) = false := beq_eq_false_iff_ne.2 he
          obtain ⟨⟨k0, k1, k2, k3, k4⟩, u0, u1, u2, u3, u4⟩ := HB7.out.five
          have HE2 := Lib.hid he
          clear he
          generalize rwW ((j : Int) + 1) = X at *
          go_wp2
          all_goals try (first | (rename_i h; exact absurd (eq_of_beq h) HE2.out) | (rename_i h; exact absurd (eq_of_beq h).symm HE2.out) | (rename_i h _; exact absurd (eq_of_beq h) HE2.out))
          go_roundw
          case rel => exact ⟨j + 1, by go_num, by omega, by rw [HJ.out]; exact HB7.out, HX7.out⟩
          case measure => simp [intOf]; omega
      · obtain rfl : j = 4 := by omega
        replace hz := hz.trans HX.out
        rw [H4.out] at HB
        have B5 := HB
        go_upto_region 15 with fail
        cases hgd : (o1 && (o2 && o3))
        · have HN := Lib.hid (HNO.out (fun h => by have := HG.out.symm.trans h.2.1; rw [hgd] at this; cases this))
          obtain ⟨⟨r0, r1, r2, r3, r4⟩, s0, s1, s2, s3, s4⟩ := (B0.out.ext hz).five
          rcases (show o1 = false ∨ (o1 = true ∧ o2 = false) ∨ (o1 = true ∧ o2 = true ∧ o3 = false) by cases o1 <;> cases o2 <;> cases o3 <;> simp_all) with rfl | ⟨rfl, rfl⟩ | ⟨rfl, rfl, rfl⟩
          all_goals
            clear hgd
            go_wp2
            exact rs_done (B0.out.ext hz).set5 ((((((hX.trans hz).setNew (by simp) _).setNew (by simp) _).setNew (by simp) _).setNew (by simp) _).setNew (by simp) _) rfl rfl _ _ HN.out.1 HN.out.2
        · obtain ⟨rfl, rfl, rfl⟩ : o1 = true ∧ o2 = true ∧ o3 = true := by simpa using hgd
          clear hgd
          have KX := Lib.hid (fun w => incText_spec ⟨t, f, s, k, rr⟩ w)
          obtain ⟨⟨k0, k1, k2, k3, k4⟩, _⟩ := B5.out.five
          by_cases ht : itT ⟨t, f, s, k, rr⟩ = l
          · have HY := Lib.hid (HYES.out HH.out (by rw [HS.out]; exact ht))
            have HT := Lib.hid ht
            clear ht
            go_wp2_with fail
            refine (KX.out _).mono ?_
            rintro e wx ⟨rfl, hy⟩
            replace B5 := Lib.hid (B5.out.ext hy)
            replace hz := hz.trans hy
            clear hy k0 k1 k2 k3 k4
            rw [HT.out]
            obtain ⟨⟨k0, k1, k2, k3, k4⟩, _⟩ := B5.out.five
            obtain ⟨⟨r0, r1, r2, r3, r4⟩, s0, s1, s2, s3, s4⟩ := (B0.out.ext hz).five
            go_wp2
            exact rs_done (B0.out.ext hz).set5 ((((((hX.trans hz).setNew (by simp) _).setNew (by simp) _).setNew (by simp) _).setNew (by simp) _).setNew (by simp) _) rfl rfl _ _ (HY.out.1.trans HS.out) HY.out.2
          · have HN := Lib.hid (HNO.out (fun h => ht (by rw [← HS.out]; exact h.2.2)))
            have hne : (itT ⟨t, f, s, k, rr⟩ == l) = false := beq_eq_false_iff_ne.2 ht
            clear ht
            generalize itT ⟨t, f, s, k, rr⟩ = Tx at *
            go_wp2_with fail
            refine (KX.out _).mono ?_
            rintro e wx ⟨rfl, hy⟩
            replace hz := hz.trans hy
            clear hy k0 k1 k2 k3 k4
            obtain ⟨⟨r0, r1, r2, r3, r4⟩, s0, s1, s2, s3, s4⟩ := (B0.out.ext hz).five
            go_wp2
            exact rs_done (B0.out.ext hz).set5 ((((((hX.trans hz).setNew (by simp) _).setNew (by simp) _).setNew (by simp) _).setNew (by simp) _).setNew (by simp) _) rfl rfl _ _ HN.out.1 HN.out.2

end Go.Proofs.YtknelhceaoblhaaDoor.Irx
