import Derived.Test.YtplbahdomjeekaaGreatZon6
import Derived.Test.YtplbahdomjeekaaGreatMCrv5
import Derived.Maps.AppendAt
namespace Go.Proofs.YtplbahdomjeekaaGreat.Crs
open Go.ChangeShapes Go.WideShapes Go.ChangeAt Go.RowKit Go.PlainAid
open Go.Proofs.YtplbahdomjeekaaGreat.Num Go.Proofs.YtplbahdomjeekaaGreat.Kit Go.Proofs.YtplbahdomjeekaaGreat.Pts Go.Proofs.YtplbahdomjeekaaGreat.Seg Go.Proofs.YtplbahdomjeekaaGreat.Div Go.Proofs.YtplbahdomjeekaaGreat.Root Go.Proofs.YtplbahdomjeekaaGreat.Rt Go.Proofs.YtplbahdomjeekaaGreat.Gcd
open Go.Proofs.YtplbahdomjeekaaGreat.Trk (F3 Fxs Tr trB fx)
set_option linter.unusedVariables false
set_option linter.unusedSimpArgs false
theorem row_some9 {w : World} {base size n : Nat} {e : TypeId} {v : Value} {xs : List Value} (h : w.ownsRow base e size v n xs) (h0 : 0 < n) :
    ∃ g cap, v = .slice (some ⟨g, 0, none⟩) n cap ∧ n ≤ cap ∧ base ≤ g ∧ ∀ j, j < n * size → w.cell? ⟨g, j, none⟩ = xs[j]? := by
  rcases row_cases h with ⟨_, q⟩ | q
  · exact absurd q (by omega)
  · exact q
structure V2 where
  f : Int
  l : Int
def vx (vs : List V2) (i : Nat) : V2 := vs.getD i ⟨0, 0⟩
theorem vx_at {vs : List V2} {i : Nat} (h : i < vs.length) : vs[i]? = some (vx vs i) := by
  unfold vx; rw [List.getD_eq_getElem?_getD]; simp [h]
def vsStep (vs : List V2) (g : Int) : List V2 := match vs.getLast? with
  | some v => if v.l + 1 = g then vs.dropLast ++ [⟨v.f, g⟩] else vs ++ [⟨g, g⟩]
  | none => vs ++ [⟨g, g⟩]
def vsN (zs : List Int) : Nat → List V2
  | 0 => []
  | j + 1 => vsStep (vsN zs j) (nz zs j)
theorem vs_nil (g : Int) : vsStep [] g = [⟨g, g⟩] := rfl
theorem vs_ext {is : List V2} {v : V2} {g : Int} (h : v.l + 1 = g) : vsStep (is ++ [v]) g = is ++ [⟨v.f, g⟩] := by
  unfold vsStep; rw [List.getLast?_append]; simp [h]
theorem vs_new {is : List V2} {v : V2} {g : Int} (h : ¬ v.l + 1 = g) : vsStep (is ++ [v]) g = is ++ [v] ++ [⟨g, g⟩] := by
  unfold vsStep; rw [List.getLast?_append]; simp [h]
theorem vs_len (vs : List V2) (g : Int) : (vsStep vs g).length ≤ vs.length + 1 := by
  rcases List.eq_nil_or_concat vs with rfl | ⟨is, v, rfl⟩
  · rw [vs_nil]; simp
  rw [List.concat_eq_append]
  by_cases h : v.l + 1 = g
  · rw [vs_ext h]; simp
  · rw [vs_new h]; simp
theorem vsN_len (zs : List Int) : ∀ j, (vsN zs j).length ≤ j
  | 0 => Nat.le_refl _
  | j + 1 => Nat.le_trans (vs_len _ _) (by have := vsN_len zs j; omega)
theorem nz_mem {zs : List Int} {i : Nat} (h : i < zs.length) : nz zs i ∈ zs := List.mem_of_getElem? (nz_at h)
theorem vsN_bd {zs : List Int} (hb : ∀ z ∈ zs, 0 ≤ z ∧ z ≤ 1000) : ∀ j, j ≤ zs.length → ∀ v ∈ vsN zs j, (0 ≤ v.f ∧ v.f ≤ 1000) ∧ 0 ≤ v.l ∧ v.l ≤ 1000
  | 0, _, v, hv => by simp [vsN] at hv
  | j + 1, hj, v, hv => by
    have ih := vsN_bd hb j (by omega)
    have hz := hb _ (nz_mem (show j < zs.length by omega))
    have e : vsN zs (j + 1) = vsStep (vsN zs j) (nz zs j) := rfl
    rw [e] at hv
    rcases List.eq_nil_or_concat (vsN zs j) with h | ⟨is, u, h⟩
    · rw [h, vs_nil] at hv
      simp at hv; subst hv; exact ⟨hz, hz⟩
    · rw [h] at hv ih
      rw [List.concat_eq_append] at hv ih
      by_cases g : u.l + 1 = nz zs j
      · rw [vs_ext g] at hv
        rcases List.mem_append.1 hv with h1 | h1
        · exact ih v (List.mem_append.2 (.inl h1))
        · simp at h1; subst h1
          exact ⟨(ih u (by simp)).1, hz⟩
      · rw [vs_new g] at hv
        rcases List.mem_append.1 hv with h1 | h1
        · exact ih v h1
        · simp at h1; subst h1; exact ⟨hz, hz⟩
def cellsV (vs : List V2) : List Value := vs.flatMap fun v => [.int .i64 v.f, .int .i64 (v.l + 1)]
theorem cellsV_len : ∀ vs : List V2, (cellsV vs).length = vs.length * 2
  | [] => rfl
  | v :: vs => by
    have := cellsV_len vs
    simp only [cellsV, List.flatMap_cons, List.length_append, List.length_cons, List.length_nil] at this ⊢
    omega
theorem cellsV_app (vs : List V2) (v : V2) : cellsV (vs ++ [v]) = cellsV vs ++ [.int .i64 v.f, .int .i64 (v.l + 1)] := by simp [cellsV]
theorem cellsV_get : ∀ (vs : List V2) (i : Nat), i < vs.length → (cellsV vs)[i * 2]? = some (.int .i64 (vx vs i).f) ∧ (cellsV vs)[i * 2 + 1]? = some (.int .i64 ((vx vs i).l + 1))
  | [], i, h => absurd h (by simp)
  | v :: vs, 0, _ => by simp [cellsV, vx]
  | v :: vs, i + 1, h => by
    have := cellsV_get vs i (by simpa using h)
    have e : cellsV (v :: vs) = .int .i64 v.f :: .int .i64 (v.l + 1) :: cellsV vs := by simp [cellsV]
    rw [e, show (i + 1) * 2 = i * 2 + 2 by omega]
    simpa [vx] using this
theorem cellsV_set (vs : List V2) (a b c : Value) : (cellsV vs ++ [a, b]).set (vs.length * 2 + 1) c = cellsV vs ++ [a, c] := by
  rw [List.set_append, if_neg (by rw [cellsV_len]; omega), cellsV_len, show vs.length * 2 + 1 - vs.length * 2 = 1 by omega]; rfl
def OwnV (w : World) (base : Nat) (v : Value) (vs : List V2) : Prop := w.ownsRow base 119 2 v vs.length (cellsV vs)
theorem visitInfo : (Tryz.prog.info? 119).map (fun i => (i.zero, i.size, i.bytes)) = some (some (.agg #[.int .i64 0, .int .i64 0]), 2, 16) := by kernel_rfl
theorem two_ints (x y : Int) : ∀ u ∈ ([.int .i64 x, .int .i64 y] : List Value), u.oneCell' = true := by
  intro u hu
  simp at hu
  rcases hu with rfl | rfl <;> rfl
theorem two_cells {w : World} {u v : Value} {t : TypeId} {n : Nat} (hn : w.heap.size = n) : ∀ (j : Nat) (x : Value), ([u, v] : List Value)[j]? = some x → (w.alloc (.cells #[u, v] t)).cell? ((⟨n, 0, none⟩ : Addr).add j) = some x := by
  intro j x hx
  rw [show (⟨n, 0, none⟩ : Addr).add j = ⟨n, j, none⟩ by simp [Addr.add]; omega]
  exact boxed j (by simpa using hx) hn
theorem ownV_set {w : World} {base g cap : Nat} {vs : List V2} {a b : Value} {c : Value} {n : Nat} (hn : n = vs.length + 1)
    (h : w.ownsRow base 119 2 (.slice (some ⟨g, 0, none⟩) n cap) n (cellsV vs ++ [a, b])) :
    (w.setCell ⟨g, vs.length * 2 + 1, none⟩ c).ownsRow base 119 2 (.slice (some ⟨g, 0, none⟩) n cap) n (cellsV vs ++ [a, c]) := by
  have := (World.ownsRow.stored h (vs.length * 2 + 1) c).1
  rw [cellsV_set] at this
  exact this
theorem RelGv_fix {w : World} {base g cap K : Nat} {is : List V2} {v : V2} {G : Int} (hK : K = (is ++ [v]).length)
    (h : w.ownsRow base 119 2 (.slice (some ⟨g, 0, none⟩) (K + 1) cap) (K + 1) (cellsV (is ++ [v]) ++ [.int .i64 G, .int .i64 0])) :
    OwnV (w.setCell ⟨g, K * 2 + 1, none⟩ (.int .i64 (G + 1))) base (.slice (some ⟨g, 0, none⟩) (K + 1) cap) (is ++ [v] ++ [⟨G, G⟩]) := by
  subst hK
  unfold OwnV
  rw [cellsV_app, show (is ++ [v] ++ [(⟨G, G⟩ : V2)]).length = (is ++ [v]).length + 1 by simp]
  exact ownV_set rfl h
def RelGv (W : World) (B0 : Nat) (zs : List Int) (o p i : Value) (wr : World) : Prop :=
  ∃ j : Nat, i = .int .i64 j ∧ j ≤ zs.length ∧ OwnV wr W.heap.size o (vsN zs j) ∧ Ext W wr ∧
    ((vsN zs j = [] ∧ p = .pointer (some ⟨B0, 0, none⟩)) ∨ ∃ g cap is v, vsN zs j = is ++ [v] ∧ o = .slice (some ⟨g, 0, none⟩) (is.length + 1) cap ∧ p = .pointer (some ⟨g, is.length * 2, none⟩))
set_option maxRecDepth 100000 in
set_option maxHeartbeats 16000000 in
theorem gatherVisits_any (az : Option Addr) (cz : Nat) (zs : List Int) (w : World) (hz : Zxs w az zs) (hl : zs.length ≤ 1000) (hb : ∀ z ∈ zs, 0 ≤ z ∧ z ≤ 1000) :
    Calls Tryz.prog 83 #[.slice az zs.length cz] w fun e w' => ∃ v, e = .returned v ∧ OwnV w' w.heap.size v (vsN zs zs.length) ∧ Ext w w' := by
  obtain ⟨W0, hW0⟩ : ∃ W0, W0 = w.alloc (.cells #[.int .i64 0, .int .i64 0] 119) := ⟨_, rfl⟩
  have HW := Lib.hid (show Ext w W0 from hW0 ▸ (Ext.refl w).alloc _)
  have BZ := Lib.hid (show Box W0 w.heap.size [.int .i64 0, .int .i64 0] from hW0 ▸ Box.new2 rfl)
  have HZ := Lib.hid (hz.ext HW.out)
  have HB := Lib.hid hb
  clear hz hb
  obtain ⟨i0, hin, hz0, hz1, hz2⟩ := info_parts visitInfo
  go_enter Tryz.func83, Tryz.ntmps83
  go_wp2
  rw [← hW0]
  clear hW0
  go_loopw [3, 4, 11] (fun o p i wr => RelGv W0 w.heap.size zs o p i wr) (fun o p i _ => zs.length - (intOf i).toNat)
  case atStart => exact ⟨0, rfl, Nat.zero_le _, World.ownsRow_nil _ _ _ _, Ext.refl _, .inl ⟨rfl, rfl⟩⟩
  case round =>
    obtain ⟨j, rfl, hj, hO, hx, hp⟩ := hrel
    have HO := Lib.hid hO
    have HX := Lib.hid hx
    clear hO hx
    by_cases hj1 : j < zs.length
    · obtain ⟨bz, oz, rfl, hzc⟩ := HZ.out.row (by omega)
      have c0 := HX.out.cellOf (hzc j hj1)
      have hG := HB.out _ (nz_mem hj1)
      have VB := Lib.hid (vsN_bd HB.out j hj)
      have VL := Lib.hid (vsN_len zs j)
      have EV : vsN zs (j + 1) = vsStep (vsN zs j) (nz zs j) := rfl
      have j0 : (0 : Int) ≤ (j : Int) := by omega
      have j1 : (j : Int) < (zs.length : Int) := by omega
      have T7 : IntKind.i64.wrap ((j : Int) + 1) = (j : Int) + 1 := IntWalk.i64_in _ (by omega)
      obtain ⟨G, hGG⟩ : ∃ G, G = nz zs j := ⟨_, rfl⟩
      rw [← hGG] at c0 hG EV
      clear hGG hzc
      have T8 : IntKind.i64.wrap (G + 1) = G + 1 := IntWalk.i64_in _ (by omega)
      have HEV := Lib.hid EV
      clear EV
      rcases hp with ⟨he, rfl⟩ | ⟨g, cap, is, v, he, rfl, rfl⟩
      · -- the first visit
        rw [he] at HO HEV
        have HE := Lib.hid (HEV.out.trans (vs_nil G))
        clear HEV he VB VL
        obtain ⟨⟨b0, b1⟩, _⟩ := (BZ.out.ext HX.out).two
        have OA := row_ext HO.out ((Ext.refl wr).alloc (.cells #[.int .i64 G, .int .i64 0] 119))
        have XA := Lib.hid (HX.out.alloc (.cells #[.int .i64 G, .int .i64 0] 119))
        have CC := Lib.hid (two_cells (w := wr) (n := wr.heap.size) (u := .int .i64 G) (v := .int .i64 0) (t := 119) rfl)
        have P1 := Lib.hid (two_ints G 0)
        have zA := Lib.hid (Ext.size XA.out)
        go_wp2_with (at_builtin; refine wpList_append_own _ rfl _ _ 116 rfl W0.heap.size 119 i0 (.agg #[.int .i64 0, .int .i64 0]) 2 16 Tryz.underlying116 hin hz0 hz1 hz2 rfl (by decide) _ 0 _ rfl OA ⟨wr.heap.size, 0, none⟩ 1 1 [.int .i64 G, .int .i64 0] rfl rfl CC.out P1.out (by unfold maxLen; omega) (by omega) zA.out ?_; intro v1 w5 hown hgrow hnil; have OW := Lib.hid hown; have X5 := Lib.hid (row_grown (w0 := W0) OA hgrow (Nat.le_refl _) XA.out); clear hown hgrow hnil OA; obtain ⟨g, cp, rfl, hcp, hgb, hcell⟩ := row_some9 OW.out (by omega); have d1 := (hcell 1 (by omega)).trans (show (cellsV [] ++ [Value.int .i64 G, .int .i64 0])[1]? = some (.int .i64 0) from rfl); have fz := World.ownsRow.frozenAt OW.out 1; clear hcell)
        have hs := ownV_set (vs := []) (a := .int .i64 G) (b := .int .i64 0) (c := .int .i64 (G + 1)) (n := 1) rfl OW.out
        go_roundw
        case rel => exact ⟨j + 1, by go_num, by omega, by rw [HE.out]; exact hs, X5.out.setNew (p := ⟨g, 1, none⟩) hgb _, .inr ⟨g, cp, [], ⟨G, G⟩, HE.out, rfl, rfl⟩⟩
        case measure => simp [intOf]; omega
      · rw [he] at HO HEV VB VL
        have HL := Lib.hid (show is.length + 1 ≤ j by have := VL.out; simpa using this)
        obtain ⟨⟨vf0, vf1⟩, vl0, vl1⟩ := VB.out v (by simp)
        have hO0 : wr.ownsRow W0.heap.size 119 2 (.slice (some ⟨g, 0, none⟩) (is.length + 1) cap) (is.length + 1) (cellsV (is ++ [v])) := by have := HO.out; unfold OwnV at this; simpa using this
        have p0 := World.ownsRow.cellAt hO0 (is.length * 2) (by omega)
        have p1 := World.ownsRow.cellAt hO0 (is.length * 2 + 1) (by omega)
        obtain ⟨s0, s1⟩ := cellsV_get (is ++ [v]) is.length (by simp)
        have sv : vx (is ++ [v]) is.length = v := by unfold vx; simp
        rw [sv] at s0 s1
        rw [s0] at p0
        rw [s1] at p1
        have fz := World.ownsRow.frozenAt hO0 (is.length * 2 + 1)
        have q0 : (v.l + 1 == 0) = false := beq_eq_false_iff_ne.2 (by omega)
        have hgb : W0.heap.size ≤ g := (World.ownsRow.lt hO0 g rfl).1
        have HO1 := Lib.hid hO0
        clear s0 s1 sv hO0 VB VL HO
        by_cases hq : v.l + 1 = G
        · have HE := Lib.hid (HEV.out.trans (vs_ext hq))
          have q1 : (v.l + 1 != G) = false := by simp [hq]
          have q2 : (v.l + 1 == G) = true := beq_iff_eq.2 hq
          have hs := (World.ownsRow.stored HO1.out (is.length * 2 + 1) (.int .i64 (G + 1))).1
          have HS := Lib.hid (show OwnV (wr.setCell ⟨g, is.length * 2 + 1, none⟩ (.int .i64 (G + 1))) W0.heap.size (.slice (some ⟨g, 0, none⟩) (is.length + 1) cap) (is ++ [⟨v.f, G⟩]) by
            unfold OwnV
            rw [cellsV_app, cellsV_set] at hs
            rw [cellsV_app]
            simpa using hs)
          clear hs HEV hq
          cases qf : (v.f == 0)
          · go_wp2
            go_roundw
            case rel => exact ⟨j + 1, by go_num, by omega, by rw [HE.out]; exact HS.out, HX.out.setNew (p := ⟨g, is.length * 2 + 1, none⟩) hgb _, .inr ⟨g, cap, is, ⟨v.f, G⟩, HE.out, rfl, rfl⟩⟩
            case measure => simp [intOf]; omega
          · go_wp2
            go_roundw
            case rel => exact ⟨j + 1, by go_num, by omega, by rw [HE.out]; exact HS.out, HX.out.setNew (p := ⟨g, is.length * 2 + 1, none⟩) hgb _, .inr ⟨g, cap, is, ⟨v.f, G⟩, HE.out, rfl, rfl⟩⟩
            case measure => simp [intOf]; omega
        · have HE := Lib.hid (HEV.out.trans (vs_new hq))
          have q1 : (v.l + 1 != G) = true := by simp [hq]
          have q2 : (v.l + 1 == G) = false := beq_eq_false_iff_ne.2 hq
          clear HEV hq
          have XA := Lib.hid (HX.out.alloc (.cells #[.int .i64 G, .int .i64 0] 119))
          have CC := Lib.hid (two_cells (w := wr) (n := wr.heap.size) (u := .int .i64 G) (v := .int .i64 0) (t := 119) rfl)
          have P1 := Lib.hid (two_ints G 0)
          obtain ⟨K, hK⟩ : ∃ K, K = (is ++ [v]).length := ⟨_, rfl⟩
          have HK := Lib.hid hK
          have hK2 : is.length + 1 = K := by rw [hK]; simp
          have KJ := Lib.hid (show K ≤ j by have := HL.out; omega)
          have OA0 : wr.ownsRow W0.heap.size 119 2 (.slice (some ⟨g, 0, none⟩) K cap) K (cellsV (is ++ [v])) := by have := HO1.out; rw [hK2] at this; exact this
          have OA := row_ext OA0 ((Ext.refl wr).alloc (.cells #[.int .i64 G, .int .i64 0] 119))
          have P3 := Lib.hid (show K + 1 ≤ maxLen by unfold maxLen; have := KJ.out; omega)
          have P4 := Lib.hid (show (K + 1) * 16 ≤ 140737488355328 by have := KJ.out; omega)
          have zA := Lib.hid (Ext.size XA.out)
          have NG := Lib.hid (show (cellsV (is ++ [v]) ++ [Value.int .i64 G, .int .i64 0])[K * 2 + 1]? = some (.int .i64 0) by
            rw [List.getElem?_append_right (by rw [cellsV_len, ← hK]; omega), cellsV_len, ← hK, show K * 2 + 1 - K * 2 = 1 by omega]; rfl)
          have T1 : IntKind.i64.wrap ((K : Int) + 1 - 1) = (K : Int) := by rw [IntWalk.i64_in _ (by have := KJ.out; omega)]; omega
          have T2 : IntKind.i64.wrap (((K + 1 : Nat) : Int) - 1) = (K : Int) := by rw [IntWalk.i64_in _ (by have := KJ.out; omega)]; omega
          have T6 : IntKind.i64.wrap (K : Int) = (K : Int) := IntWalk.i64_in _ (by have := KJ.out; omega)
          have T3 : (0 : Int) ≤ (K : Int) := by omega
          have T4 : (K : Int) < (K : Int) + 1 := by omega
          simp only [hK2]
          clear hK OA0 HO1 hK2 HL
          cases qf : (v.f == 0)
          · go_wp2_with (at_builtin; refine wpList_append_own _ rfl _ _ 116 rfl W0.heap.size 119 i0 (.agg #[.int .i64 0, .int .i64 0]) 2 16 Tryz.underlying116 hin hz0 hz1 hz2 rfl (by decide) _ K _ rfl OA ⟨wr.heap.size, 0, none⟩ 1 1 [.int .i64 G, .int .i64 0] rfl rfl CC.out P1.out P3.out P4.out zA.out ?_; intro v1 w5 hown hgrow hnil; have OW := Lib.hid hown; have X5 := Lib.hid (row_grown (w0 := W0) OA hgrow (Nat.le_refl _) XA.out); clear hown hgrow hnil OA; obtain ⟨g2, cp, rfl, hcp, hgb2, hcell⟩ := row_some9 OW.out (by omega); have d1 := (hcell (K * 2 + 1) (by omega)).trans NG.out; have fz2 := World.ownsRow.frozenAt OW.out (K * 2 + 1); clear hcell)
            go_roundw
            case rel => exact ⟨j + 1, by go_num, by omega, by rw [HE.out]; exact RelGv_fix HK.out OW.out, X5.out.setNew (p := ⟨g2, K * 2 + 1, none⟩) hgb2 _, .inr ⟨g2, cp, is ++ [v], ⟨G, G⟩, HE.out, by rw [← HK.out], by rw [← HK.out]⟩⟩
            case measure => simp [intOf]; omega
          · go_wp2_with (at_builtin; refine wpList_append_own _ rfl _ _ 116 rfl W0.heap.size 119 i0 (.agg #[.int .i64 0, .int .i64 0]) 2 16 Tryz.underlying116 hin hz0 hz1 hz2 rfl (by decide) _ K _ rfl OA ⟨wr.heap.size, 0, none⟩ 1 1 [.int .i64 G, .int .i64 0] rfl rfl CC.out P1.out P3.out P4.out zA.out ?_; intro v1 w5 hown hgrow hnil; have OW := Lib.hid hown; have X5 := Lib.hid (row_grown (w0 := W0) OA hgrow (Nat.le_refl _) XA.out); clear hown hgrow hnil OA; obtain ⟨g2, cp, rfl, hcp, hgb2, hcell⟩ := row_some9 OW.out (by omega); have d1 := (hcell (K * 2 + 1) (by omega)).trans NG.out; have fz2 := World.ownsRow.frozenAt OW.out (K * 2 + 1); clear hcell)
            go_roundw
            case rel => exact ⟨j + 1, by go_num, by omega, by rw [HE.out]; exact RelGv_fix HK.out OW.out, X5.out.setNew (p := ⟨g2, K * 2 + 1, none⟩) hgb2 _, .inr ⟨g2, cp, is ++ [v], ⟨G, G⟩, HE.out, by rw [← HK.out], by rw [← HK.out]⟩⟩
            case measure => simp [intOf]; omega
    · obtain rfl : j = zs.length := by omega
      go_wp2
      go_ret
      exact ⟨_, rfl, row_mono HO.out (Ext.size HW.out), HW.out.trans HX.out⟩
end Go.Proofs.YtplbahdomjeekaaGreat.Crs
namespace Go.Proofs.YtplbahdomjeekaaGreat.Crs
open Go.ChangeShapes Go.WideShapes Go.ChangeAt Go.RowKit Go.PlainAid
open Go.Proofs.YtplbahdomjeekaaGreat.Num Go.Proofs.YtplbahdomjeekaaGreat.Kit Go.Proofs.YtplbahdomjeekaaGreat.Pts Go.Proofs.YtplbahdomjeekaaGreat.Seg Go.Proofs.YtplbahdomjeekaaGreat.Div Go.Proofs.YtplbahdomjeekaaGreat.Root Go.Proofs.YtplbahdomjeekaaGreat.Rt Go.Proofs.YtplbahdomjeekaaGreat.Gcd
open Go.Proofs.YtplbahdomjeekaaGreat.Trk (F3 Fxs Tr trB fx)
set_option linter.unusedVariables false
set_option linter.unusedSimpArgs false
def gb (gs : List Nat) (i : Nat) : Nat := gs.getD i 0
theorem gb_at {gs : List Nat} {i : Nat} (h : i < gs.length) : gs[i]? = some (gb gs i) := by
  unfold gb; rw [List.getD_eq_getElem?_getD]; simp [h]
abbrev rowV (g : Nat) : Value := .slice (some ⟨g, 0, none⟩) 2 2
def cellsR (gs : List Nat) : List Value := gs.map rowV
def PairAt (w : World) (g : Nat) (v : V2) : Prop := Box w g [.int .i64 v.f, .int .i64 v.l]
structure OwnR (w : World) (base : Nat) (o : Value) (vs : List V2) (gs : List Nat) : Prop where
  len : gs.length = vs.length
  row : w.ownsRow base 46 1 o vs.length (cellsR gs)
  at_ : ∀ i, i < vs.length → base ≤ gb gs i ∧ gb gs i < w.heap.size ∧ PairAt w (gb gs i) (vx vs i)
  nd : ∀ i j, i < j → j < vs.length → gb gs i ≠ gb gs j
  out : ∀ i, i < vs.length → o.ownBlock ≠ some (gb gs i)
theorem OwnR.ext {w w' : World} {base : Nat} {o : Value} {vs : List V2} {gs : List Nat} (h : OwnR w base o vs gs) (k : Ext w w') : OwnR w' base o vs gs :=
  ⟨h.len, row_ext h.row k, fun i hi => ⟨(h.at_ i hi).1, Nat.lt_of_lt_of_le (h.at_ i hi).2.1 k.size, Box.ext (h.at_ i hi).2.2 k⟩, h.nd, h.out⟩
theorem OwnR.mono {w : World} {b c : Nat} {o : Value} {vs : List V2} {gs : List Nat} (h : OwnR w b o vs gs) (hb : c ≤ b) : OwnR w c o vs gs :=
  ⟨h.len, row_mono h.row hb, fun i hi => ⟨Nat.le_trans hb (h.at_ i hi).1, (h.at_ i hi).2⟩, h.nd, h.out⟩
theorem OwnR.nil (w : World) (base : Nat) : OwnR w base (.slice none 0 0) [] [] :=
  ⟨rfl, World.ownsRow_nil w base _ 1, fun i hi => absurd hi (by simp), fun i j _ hj => absurd hj (by simp), fun i hi => absurd hi (by simp)⟩
theorem gb_snoc (gs : List Nat) (g i : Nat) : gb (gs ++ [g]) i = if i < gs.length then gb gs i else if i = gs.length then g else 0 := by
  unfold gb
  rw [List.getD_eq_getElem?_getD, List.getD_eq_getElem?_getD, List.getElem?_append]
  by_cases h : i < gs.length
  · rw [if_pos h, if_pos h]
  · rw [if_neg h, if_neg h]
    by_cases h2 : i = gs.length
    · subst h2; simp
    · rw [if_neg h2, List.getElem?_eq_none (by simp; omega)]; rfl
theorem vx_snoc (vs : List V2) (v : V2) (i : Nat) : vx (vs ++ [v]) i = if i < vs.length then vx vs i else if i = vs.length then v else ⟨0, 0⟩ := by
  unfold vx
  rw [List.getD_eq_getElem?_getD, List.getD_eq_getElem?_getD, List.getElem?_append]
  by_cases h : i < vs.length
  · rw [if_pos h, if_pos h]
  · rw [if_neg h, if_neg h]
    by_cases h2 : i = vs.length
    · subst h2; simp
    · rw [if_neg h2, List.getElem?_eq_none (by simp; omega)]; rfl
theorem OwnR.push {w w' : World} {base : Nat} {o o' : Value} {vs : List V2} {gs : List Nat} {v : V2} {g : Nat} (h : OwnR w base o vs gs)
    (hP : PairAt w g v) (hb : base ≤ g) (hg : g < w.heap.size) (hn : ∀ i, i < vs.length → gb gs i ≠ g) (ho : o.ownBlock ≠ some g)
    (hown : w'.ownsRow base 46 1 o' (vs.length + 1) (cellsR gs ++ [rowV g])) (hgrow : w.grownBy w' o.ownBlock) (ha : o'.ownBlock = o.ownBlock ∨ o'.ownBlock = some w.heap.size) :
    OwnR w' base o' (vs ++ [v]) (gs ++ [g]) := by
  have keep : ∀ (n : Nat) (l : List Value), n < w.heap.size → o.ownBlock ≠ some n → Box w n l → Box w' n l := fun n l hn ho hB i u hu => by
    obtain ⟨c, f⟩ := hB i u hu
    have e := hgrow.block n hn (fun e => ho e.symm)
    exact ⟨by rw [World.cell?_of_block (w := w) (a := ⟨n, i, none⟩) e]; exact c, by rw [World.frozen?_of_block (w := w) (a := ⟨n, i, none⟩) e]; exact f⟩
  have hs := hgrow.size
  refine ⟨by simp [h.len], ?_, fun i hi => ?_, fun i j hij hj => ?_, fun i hi => ?_⟩
  · rw [List.length_append]
    have : cellsR (gs ++ [g]) = cellsR gs ++ [rowV g] := by simp [cellsR]
    rw [this]; exact hown
  · rw [gb_snoc, vx_snoc, h.len]
    rw [List.length_append] at hi
    by_cases g1 : i < vs.length
    · rw [if_pos g1, if_pos g1]
      obtain ⟨a1, a2, a3⟩ := h.at_ i g1
      exact ⟨a1, by omega, keep _ _ a2 (h.out i g1) a3⟩
    · have e : i = vs.length := by simp at hi; omega
      rw [if_neg g1, if_neg g1, if_pos e, if_pos e]
      exact ⟨hb, by omega, keep _ _ hg ho hP⟩
  · rw [gb_snoc, gb_snoc, h.len]
    rw [List.length_append] at hj
    simp at hj
    have g1 : i < vs.length := by omega
    rw [if_pos g1]
    by_cases g2 : j < vs.length
    · rw [if_pos g2]; exact h.nd i j hij g2
    · rw [if_neg g2, if_pos (show j = vs.length by omega)]; exact hn i g1
  · rw [gb_snoc, h.len]
    rw [List.length_append] at hi
    by_cases g1 : i < vs.length
    · rw [if_pos g1]
      rcases ha with e | e
      · rw [e]; exact h.out i g1
      · rw [e]; have := (h.at_ i g1).2.1; simp; omega
    · have e : i = vs.length := by simp at hi; omega
      rw [if_neg g1, if_pos e]
      rcases ha with e | e
      · rw [e]; exact ho
      · rw [e]; simp; omega
theorem rowInfo : (Tryz.prog.info? 46).map (fun i => (i.zero, i.size, i.bytes)) = some (some (.slice none 0 0), 1, 24) := by kernel_rfl
theorem one_row (g : Nat) : ∀ u ∈ ([rowV g] : List Value), u.oneCell' = true := fun u hu => by simp at hu; subst hu; rfl
theorem ends_any (f e : Int) (w : World) (h1 : -1000000 ≤ e) (h2 : e ≤ 1000000) :
    Calls Tryz.prog 84 #[.agg #[.int .i64 f, .int .i64 e]] w fun r w' => ∃ g, r = .returned (rowV g) ∧ w.heap.size ≤ g ∧ g < w'.heap.size ∧ Box w' g [.int .i64 f, .int .i64 (e - 1)] ∧ Ext w w' := by
  have T : IntKind.i64.wrap (e - 1) = e - 1 := IntWalk.i64_in _ (by omega)
  go_enter Tryz.func84, Tryz.ntmps84
  go_wp2
  go_ret
  exact ⟨w.heap.size + 1, rfl, by omega, by simp, Box.new2 (by simp), (by repeat (first | exact Ext.refl _ | assumption | apply Ext.alloc | apply Ext.drew | (refine Ext.trans ?_ (by assumption)) | (refine Ext.setNew ?_ (by simp <;> omega) _)))⟩
def vzL (l k : L4) (ms : List M5) (fs : List F3) (n : Int) : List V2 := if mfC l k ms (trB fs) n = 0 then vsN (tzL (mk ms n.toNat) fs) (tzL (mk ms n.toNat) fs).length else []
theorem vz_bad {l k : L4} {ms : List M5} {fs : List F3} {n : Int} (h : mfC l k ms (trB fs) n ≠ 0) : vzL l k ms fs n = [] := if_neg h
theorem vz_yes {l k : L4} {ms : List M5} {fs : List F3} {i : Nat} (h : mfC l k ms (trB fs) i = 0) : vzL l k ms fs i = vsN (tzL (mk ms i) fs) (tzL (mk ms i) fs).length := by unfold vzL; rw [if_pos h]; simp
theorem tz_bd {m : M5} {fs : List F3} (hv : trB fs = true) : (tzL m fs).length ≤ 39 ∧ ∀ z ∈ tzL m fs, 0 ≤ z ∧ z ≤ 1000 := by
  have h40 := (Trk.trB_yes hv).1.2
  have h1 : (tzL m fs).length ≤ fs.length - 1 := tgL_len m fs (fs.length - 1)
  refine ⟨by omega, fun z hz => ?_⟩
  obtain ⟨i, rfl, hi, _⟩ := tgL_mem.1 hz
  omega
def VzA (w : World) (l k : L4) (ms : List M5) (fs : List F3) (n : Int) (e : Ending) (w' : World) : Prop :=
  ∃ v gs, e = .returned (.tuple #[v, .int .i64 (mfC l k ms (trB fs) n)]) ∧ OwnR w' w.heap.size v (vzL l k ms fs n) gs ∧ Ext w w'
def vtk (vs : List V2) (j : Nat) : List V2 := (List.range j).map (vx vs)
def RelVo (W : World) (vs : List V2) (o i : Value) (wr : World) : Prop :=
  ∃ (j : Nat) (gs : List Nat), i = .int .i64 j ∧ j ≤ vs.length ∧ OwnR wr W.heap.size o (vtk vs j) gs ∧ Ext W wr
theorem vtk_len (vs : List V2) (j : Nat) : (vtk vs j).length = j := by simp [vtk]
theorem take_vx (vs : List V2) (j : Nat) : vtk vs (j + 1) = vtk vs j ++ [vx vs j] := by unfold vtk; rw [List.range_succ, List.map_append]; rfl
theorem vtk_all (vs : List V2) : vtk vs vs.length = vs := by
  apply List.ext_getElem?
  intro i
  unfold vtk
  rw [List.getElem?_map]
  by_cases h : i < vs.length
  · rw [vx_at h]; simp [h]
  · rw [List.getElem?_eq_none (by simp; omega), List.getElem?_eq_none (by omega)]; rfl
theorem OwnR.fresh {w : World} {base : Nat} {o : Value} {vs : List V2} {gs : List Nat} (h : OwnR w base o vs gs) {q : Nat} (hq : w.heap.size ≤ q) : o.ownBlock ≠ some q := fun e => by have := (World.ownsRow.lt h.row q e).2; omega
set_option maxRecDepth 100000 in
set_option maxHeartbeats 16000000 in
theorem visitsOf_impl (l k : L4) (a : Option Addr) (cap : Nat) (ms : List M5) (n : Int) (at_ : Option Addr) (ct : Nat) (fs : List F3) (w : World) (hf : Mks w a ms) (ht : Fxs w at_ fs) :
    Calls Tryz.prog 26 #[CV l k (.slice a ms.length cap), .int .i64 n, Tr (.slice at_ fs.length ct)] w (VzA w l k ms fs n) := by
  obtain ⟨W0, hW0⟩ : ∃ W0, W0 = (w.alloc (.cells (cellsC l k (.slice a ms.length cap)).toArray 30)).alloc (.cells #[.slice at_ fs.length ct] 33) := ⟨_, rfl⟩
  have HW := Lib.hid (show Ext w W0 from hW0 ▸ ((Ext.refl w).alloc _).alloc _)
  have ctt : W0.cell? ⟨w.heap.size + 1, 0, none⟩ = some (.slice at_ fs.length ct) := hW0 ▸ boxed 0 rfl (by simp)
  have CT := Lib.hid ctt
  have HF := Lib.hid (hf.ext HW.out)
  have HT := Lib.hid (ht.ext HW.out)
  have zW : W0.heap.size = w.heap.size + 1 + 1 := by rw [hW0]; simp
  clear hf ht ctt
  obtain ⟨W1, hW1⟩ : ∃ W1, W1 = W0.alloc (.cells #[.slice at_ fs.length ct] 33) := ⟨_, rfl⟩
  have h1 : Ext W0 W1 := hW1 ▸ (Ext.refl W0).alloc _
  have TK := Lib.hid (Tks.one (w := W1) (b := w.heap.size + 1 + 1) (t := ⟨at_, ct, fs⟩) (hW1 ▸ boxed 0 rfl zW) (HT.out.ext h1))
  have KL := Lib.hid (markFor_any l k a cap ms n (some ⟨w.heap.size + 1 + 1, 0, none⟩) 1 [⟨at_, ct, fs⟩] W1 (HF.out.ext h1) TK.out)
  rw [tsB_one] at KL
  have X1 := Lib.hid h1
  clear h1 zW
  by_cases g : mfC l k ms (trB fs) n = 0
  rotate_left
  · have HY := Lib.hid (vz_bad g)
    have g1 : (mfC l k ms (trB fs) n != 0) = true := by simp [g]
    have g2 : (mfC l k ms (trB fs) n == 0) = false := beq_eq_false_iff_ne.2 g
    obtain ⟨C, hC⟩ : ∃ C, C = mfC l k ms (trB fs) n := ⟨_, rfl⟩
    have HC := Lib.hid hC
    rw [← hC] at KL g1 g2
    clear g hC
    go_enter Tryz.func26, Tryz.ntmps26
    go_wp2_with fail
    rw [← hW0, ← hW1]
    clear hW0 hW1
    refine KL.out.mono ?_
    rintro e w1 ⟨rfl, hx⟩
    go_wp2
    go_ret2
    exact ⟨_, [], ret_vi HC.out.symm, by rw [HY.out]; exact OwnR.nil _ _, HW.out.trans (X1.out.trans (hx.alloc _))⟩
  obtain ⟨hq, hv, hn⟩ := mf_zero g
  obtain ⟨i, rfl⟩ : ∃ i : Nat, n = i := ⟨n.toNat, by omega⟩
  have hi : i < ms.length := by omega
  have hm := cr_mk hq hi
  have HY := Lib.hid (And.intro (vz_yes g) g)
  rw [mf_mk g, g] at KL
  have KT := Lib.hid (fun w' h => legsTouching_any (mk ms i) at_ ct fs w' h hv hm)
  have TB := Lib.hid (tz_bd (m := mk ms i) hv)
  clear g hq hv hn hm
  obtain ⟨m, hmm⟩ : ∃ m, m = mk ms i := ⟨_, rfl⟩
  rw [← hmm] at KL HY KT TB
  clear hmm
  obtain ⟨zs, hzs⟩ : ∃ zs, zs = tzL m fs := ⟨_, rfl⟩
  rw [← hzs] at HY KT TB
  clear hzs
  have KG := Lib.hid (fun az cz w' h => gatherVisits_any az cz zs w' h (by have := TB.out.1; omega) TB.out.2)
  have VB := Lib.hid (vsN_bd TB.out.2 zs.length (Nat.le_refl _))
  have VL := Lib.hid (vsN_len zs zs.length)
  obtain ⟨vs, hvs⟩ : ∃ vs, vs = vsN zs zs.length := ⟨_, rfl⟩
  rw [← hvs] at HY KG VB VL
  clear hvs
  have VC := Lib.hid (show vs.length ≤ 39 by have := TB.out.1; have := VL.out; omega)
  obtain ⟨i0, hin, hz0, hz1, hz2⟩ := info_parts rowInfo
  go_enter Tryz.func26, Tryz.ntmps26
  go_wp2_with fail
  rw [← hW0, ← hW1]
  clear hW0 hW1
  refine KL.out.mono ?_
  rintro e w1 ⟨rfl, hx⟩
  have c9 : ∀ A, (w1.alloc A).cell? ⟨w.heap.size + 1, 0, none⟩ = some (.slice at_ fs.length ct) := fun A => ((Ext.refl w1).alloc A).cellOf (hx.cellOf (X1.out.cellOf CT.out))
  have X2 := Lib.hid (X1.out.trans (hx.alloc (.cells #[.string m.n, .int .i64 m.x, .int .i64 m.y, .int .i64 m.s, .int .i64 m.z] 45)))
  clear hx
  go_wp2_with fail
  refine (KT.out _ (HT.out.ext X2.out)).mono ?_
  rintro e w2 ⟨v, rfl, hO, hy⟩
  obtain ⟨az, cz, rfl, hZ⟩ := hO.zxs (by have := TB.out.1; unfold maxLen; omega)
  have KJ := Lib.hid (KG.out az cz w2 hZ)
  replace X2 := Lib.hid (X2.out.trans hy)
  clear hO hZ hy c9
  go_wp2_with fail
  refine KJ.out.mono ?_
  rintro e w3 ⟨v, rfl, hO, hy⟩
  have X3 := Lib.hid (X2.out.trans hy)
  have HO := Lib.hid hO
  clear hO hy
  have hvl : ∃ av cv, v = .slice av vs.length cv ∧ ∀ j, j < vs.length → ∃ b, av = some ⟨b, 0, none⟩ ∧ w3.cell? ⟨b, j * 2, none⟩ = some (.int .i64 (vx vs j).f) ∧ w3.cell? ⟨b, j * 2 + 1, none⟩ = some (.int .i64 ((vx vs j).l + 1)) := by
    rcases row_cases HO.out with ⟨hv, hn⟩ | ⟨gx, cp, hv, hcp, hg0, hC⟩
    · exact ⟨none, 0, by rw [hv, hn], fun j hj => absurd hj (by omega)⟩
    · refine ⟨some ⟨gx, 0, none⟩, cp, hv, fun j hj => ⟨gx, rfl, ?_, ?_⟩⟩
      · rw [hC (j * 2) (by omega)]; exact (cellsV_get vs j hj).1
      · rw [hC (j * 2 + 1) (by omega)]; exact (cellsV_get vs j hj).2
  obtain ⟨av, cv, rfl, hcell⟩ := hvl
  have HCL := Lib.hid hcell
  clear hcell HO
  go_wp2
  go_loopw [10, 29] (fun o i wr => RelVo w3 vs o i wr) (fun o i _ => vs.length - (intOf i).toNat)
  case atStart => exact ⟨0, [], rfl, Nat.zero_le _, OwnR.nil _ _, Ext.refl _⟩
  case round =>
    obtain ⟨j, gs, rfl, hj, hO, hx⟩ := hrel
    have HO := Lib.hid hO
    have HX := Lib.hid hx
    clear hO hx
    by_cases hj1 : j < vs.length
    · obtain ⟨b, rfl, k0, k1⟩ := HCL.out j hj1
      replace k0 := HX.out.cellOf k0
      replace k1 := HX.out.cellOf k1
      have EV := Lib.hid (take_vx vs j)
      have hmem : vx vs j ∈ vs := List.mem_of_getElem? (vx_at hj1)
      have hbd := VB.out _ hmem
      have j0 : (0 : Int) ≤ (j : Int) := by omega
      have j1 : (j : Int) < (vs.length : Int) := by omega
      have T7 : IntKind.i64.wrap ((j : Int) + 1) = (j : Int) + 1 := IntWalk.i64_in _ (by have := VC.out; omega)
      obtain ⟨u, hu⟩ : ∃ u, u = vx vs j := ⟨_, rfl⟩
      rw [← hu] at k0 k1 EV hbd
      clear hu hmem
      have KE := Lib.hid (fun w' => ends_any u.f (u.l + 1) w' (by omega) (by omega))
      have TL := Lib.hid (vtk_len vs j)
      go_wp2_with fail
      refine (KE.out _).mono ?_
      rintro e w4 ⟨q, rfl, hq0, hq1, hqB, hy⟩
      have hy2 : Ext wr w4 := ((Ext.refl wr).alloc (.cells #[.int .i64 u.f, .int .i64 (u.l + 1)] 119)).trans hy
      have hq2 : wr.heap.size < q := by simp at hq0; omega
      have RO := Lib.hid ((HO.out.ext hy2).ext ((Ext.refl w4).alloc (.cells #[rowV q] 46)))
      have OA := RO.out.row
      have XA := Lib.hid ((HX.out.trans hy2).alloc (.cells #[rowV q] 46))
      have CC := Lib.hid (lit_cells (w := w4) (n := w4.heap.size) (u := rowV q) (t := 46) rfl)
      have P1 := Lib.hid (one_row q)
      rw [TL.out] at OA
      have VC2 := VC.out
      have P3 := Lib.hid (show j + 1 ≤ maxLen by unfold maxLen; omega)
      have P4 := Lib.hid (show (j + 1) * 24 ≤ 140737488355328 by omega)
      have zA := Lib.hid (Ext.size XA.out)
      have QB := Lib.hid (show PairAt (w4.alloc (.cells #[rowV q] 46)) q u from by
        have h := Box.alloc hqB (.cells #[rowV q] 46)
        rw [show u.l + 1 - 1 = u.l by omega] at h; exact h)
      have Q1 := Lib.hid (show q < (w4.alloc (.cells #[rowV q] 46)).heap.size by simp; omega)
      have Q2 := Lib.hid (show w3.heap.size ≤ q by have := Ext.size HX.out; omega)
      have Q3 := Lib.hid (fun i (hi : i < (vtk vs j).length) => show gb gs i ≠ q by have := (HO.out.at_ i hi).2.1; omega)
      have Q4 := Lib.hid (HO.out.fresh (q := q) (by omega))
      clear hq0 hq1 hq2 hqB hy hy2 k0 k1
      go_wp2_with (at_builtin; refine wpList_append_own_at _ rfl _ _ 54 rfl w3.heap.size 46 i0 (.slice none 0 0) 1 24 Tryz.underlying54 hin hz0 hz1 hz2 rfl (by decide) _ j _ rfl OA ⟨w4.heap.size, 0, none⟩ 1 1 [rowV q] rfl rfl CC.out P1.out P3.out P4.out zA.out ?_; intro v1 w5 hown hgrow hnil hat; have R5 := Lib.hid (OwnR.push RO.out QB.out Q2.out Q1.out Q3.out Q4.out (by rw [TL.out]; exact hown) hgrow hat); have X5 := Lib.hid (row_grown (w0 := w3) OA hgrow (Nat.le_refl _) XA.out); clear hown hgrow hnil hat OA)
      go_roundw
      case rel => exact ⟨j + 1, gs ++ [q], by go_num, by omega, by rw [EV.out]; exact R5.out, X5.out⟩
      case measure => simp [intOf]; omega
    · obtain rfl : j = vs.length := by omega
      go_wp2
      go_ret2
      exact ⟨_, gs, ret_vi HY.out.2, by rw [HY.out.1]; have := HO.out; rw [vtk_all] at this; exact this.mono (Ext.size (HW.out.trans X3.out)), HW.out.trans (X3.out.trans HX.out)⟩
end Go.Proofs.YtplbahdomjeekaaGreat.Crs
