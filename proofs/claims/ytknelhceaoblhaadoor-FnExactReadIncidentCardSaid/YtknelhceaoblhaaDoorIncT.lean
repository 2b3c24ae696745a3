/- The texts of incidents (chapter 12): words, and that they are read back. No program is named here. -/
import Derived.Test.YtknelhceaoblhaaDoorRulT
import Derived.Test.YtknelhceaoblhaaDoorWrs
import Derived.Test.YtknelhceaoblhaaDoorIv0
import Derived.Lib.Join
namespace Go.Proofs.YtknelhceaoblhaaDoor.IncT
open Go.Proofs.YtknelhceaoblhaaDoor.Num Go.Proofs.YtknelhceaoblhaaDoor.TxtMath Go.Proofs.YtknelhceaoblhaaDoor.Crs Go.Proofs.YtknelhceaoblhaaDoor.RulT
open Go.Proofs.YtknelhceaoblhaaDoor.Wrs (cutB cutB_hit cutB_last)
open Go.Proofs.YtknelhceaoblhaaDoor.Iv (I5)
set_option linter.unusedVariables false
set_option linter.unusedSimpArgs false

/-- Is the keeper valid beside the reason? -/
def kpB (x : I5) : Bool := if x.k = -1 then x.r == 5 else if x.k = x.f ∨ x.k = x.s then inB x.r 1 4 else false
/-- Are the boats valid? -/
def bsB (x : I5) : Bool := decide (0 ≤ x.f) && (decide (x.f < x.s) && decide (x.s < 16))
/-- Is an incident valid? -/
def iiB (x : I5) : Bool := inB x.t 0 1000000000 && (bsB x && kpB x)
/-- The text of a boat's number. -/
def nmW (n : Int) : List UInt8 := if n < 10 then [UInt8.ofNat (48 + n.toNat)] else [49, UInt8.ofNat (38 + n.toNat)]
def kwW (k : Int) : List (List UInt8) := if k = -1 then [] else [nmW k]
/-- The words of an incident's text. -/
def itW (x : I5) : List (List UInt8) := [tmT x.t, nmW x.f, nmW x.s] ++ kwW x.k ++ [rwW x.r]
def itK (x : I5) : List UInt8 := if x.k = -1 then rwW x.r else nmW x.k ++ 32 :: rwW x.r
def itL (x : I5) : List UInt8 := tmT x.t ++ 32 :: (nmW x.f ++ 32 :: (nmW x.s ++ 32 :: itK x))
/-- The text of an incident. -/
def itT (x : I5) : List UInt8 := if iiB x = true then itL x else []
theorem it_join (x : I5) : Lib.join (itW x) [32] = itL x := by
  unfold itW itL itK kwW
  by_cases h : x.k = -1
  · rw [if_pos h, if_pos h]; simp [Lib.join]
  · rw [if_neg h, if_neg h]; simp [Lib.join]
theorem it_yes {x : I5} (h : iiB x = true) : itT x = itL x := if_pos h
theorem it_no {x : I5} (h : iiB x = false) : itT x = [] := by unfold itT; rw [h]; rfl
theorem it_ne (x : I5) : itL x ≠ [] := by unfold itL; simp
theorem ii_bd {x : I5} (h : iiB x = true) : (0 ≤ x.t ∧ x.t ≤ 1000000000) ∧ 0 ≤ x.f ∧ x.f < x.s ∧ x.s < 16 ∧ ((x.k = -1 ∧ x.r = 5) ∨ ((x.k = x.f ∨ x.k = x.s) ∧ 0 ≤ x.k ∧ x.k < 16 ∧ 1 ≤ x.r ∧ x.r ≤ 4)) := by
  unfold iiB bsB at h
  simp only [Bool.and_eq_true, decide_eq_true_eq] at h
  obtain ⟨h1, ⟨h2, h3, h4⟩, h5⟩ := h
  refine ⟨of_inB h1, h2, h3, h4, ?_⟩
  unfold kpB at h5
  by_cases g : x.k = -1
  · rw [if_pos g] at h5
    exact .inl ⟨g, by simpa using h5⟩
  · rw [if_neg g] at h5
    by_cases g2 : x.k = x.f ∨ x.k = x.s
    · rw [if_pos g2] at h5
      have := of_inB h5
      exact .inr ⟨g2, by omega, by omega, this.1, this.2⟩
    · rw [if_neg g2] at h5; cases h5
theorem num_dec : ∀ n : Nat, n < 16 → nmW n = Lib.decDigits n := by
  intro n h
  unfold nmW
  by_cases h1 : n < 10
  · rw [if_pos (by omega), Lib.decDigits_one h1]; rfl
  · rw [if_neg (by omega), Lib.decDigits_two h1 (by omega)]
    rcases (show n = 10 ∨ n = 11 ∨ n = 12 ∨ n = 13 ∨ n = 14 ∨ n = 15 by omega) with rfl | rfl | rfl | rfl | rfl | rfl <;> rfl
theorem num_nat {n : Int} (h0 : 0 ≤ n) (h : n < 16) : nmW n = Lib.decDigits n.toNat := by
  obtain ⟨k, rfl⟩ := Int.eq_ofNat_of_zero_le h0
  exact num_dec k (by omega)
theorem num_blank : ∀ n : Nat, n < 16 → ∀ c ∈ nmW (n : Int), c ≠ 32 := by decide
theorem num_pI : ∀ n : Nat, n < 16 → pI (nmW (n : Int)) = (n : Int) := by decide
theorem nm_blank {n : Int} (h0 : 0 ≤ n) (h : n < 16) : ∀ c ∈ nmW n, c ≠ 32 := by
  obtain ⟨k, rfl⟩ := Int.eq_ofNat_of_zero_le h0
  exact num_blank k (by omega)
theorem nm_pI {n : Int} (h0 : 0 ≤ n) (h : n < 16) : pI (nmW n) = n := by
  obtain ⟨k, rfl⟩ := Int.eq_ofNat_of_zero_le h0
  exact num_pI k (by omega)
theorem nm_vOk {n : Int} (h0 : 0 ≤ n) (h : n < 16) : vOk (nmW n) = true ∧ vN (nmW n) = n := by
  rw [num_nat h0 h]
  have := vOk_dec (n := n.toNat) (by omega)
  exact ⟨this.1, by rw [this.2]; omega⟩
theorem nm_len (n : Int) : (nmW n).length ≤ 2 := by unfold nmW; split <;> simp
theorem tm_blank {t : Int} (h0 : 0 ≤ t) (h1 : t ≤ 1000000000) : ∀ c ∈ tmT t, c ≠ 32 := by
  have hd : ∀ c : UInt8, isDig c → c ≠ 32 := fun c h e => by subst e; revert h; unfold isDig; decide
  have hT : tmT t = tmL t := if_pos ⟨h0, h1⟩
  rw [hT]
  unfold tmL
  intro c hc
  simp only [List.mem_append, List.mem_singleton] at hc
  rcases hc with (((hc | rfl) | hc) | rfl) | hc
  · exact hd c (dec_dig _ c hc)
  · decide
  · exact hd c (dgs_dig _ _ c hc)
  · decide
  · exact hd c (dgs_dig _ _ c hc)
theorem rw_blank : ∀ r ∈ ([1, 2, 3, 4, 5] : List Int), ∀ c ∈ rwW r, c ≠ 32 := by decide
theorem cut_one {a b : List UInt8} (h : ∀ c ∈ a, c ≠ 32) : cA 32 (a ++ 32 :: b) = a ∧ cB 32 (a ++ 32 :: b) = b ∧ cO 32 (a ++ 32 :: b) = true := by
  unfold cA cB cO
  rw [cut_at (fun e => h 32 e rfl)]
  exact ⟨rfl, rfl, rfl⟩
theorem cut_none : ∀ r ∈ ([1, 2, 3, 4, 5] : List Int), cO 32 (rwW r) = false := by decide

/-- What the program reads. -/
def pcK (l : List UInt8) : List UInt8 := if cO 32 l = true then cA 32 l else [45, 49]
def pcW (l : List UInt8) : List UInt8 := if cO 32 l = true then cB 32 l else l
def irI (l : List UInt8) : I5 := ⟨(rdI (cA 32 l)).1, pI (cA 32 (cB 32 l)), pI (cA 32 (cB 32 (cB 32 l))), pI (pcK (cB 32 (cB 32 (cB 32 l)))), ixN (pcW (cB 32 (cB 32 (cB 32 l))))⟩
theorem pI_neg : pI [45, 49] = -1 := by decide
theorem ix_rw : ∀ r ∈ ([1, 2, 3, 4, 5] : List Int), ixN (rwW r) = r := by decide
theorem r4 {r : Int} (h0 : 1 ≤ r) (h : r ≤ 4) : r ∈ ([1, 2, 3, 4, 5] : List Int) := by
  rcases (show r = 1 ∨ r = 2 ∨ r = 3 ∨ r = 4 by omega) with rfl | rfl | rfl | rfl <;> decide
/-- The pieces of a text are those of its incident (the program's reading). -/
theorem ir_text {x : I5} (h : iiB x = true) : irI (itL x) = x := by
  obtain ⟨⟨t0, t1⟩, f0, f1, s1, hk⟩ := ii_bd h
  obtain ⟨a1, a2, _⟩ := cut_one (b := nmW x.f ++ 32 :: (nmW x.s ++ 32 :: itK x)) (tm_blank t0 t1)
  obtain ⟨b1, b2, _⟩ := cut_one (b := nmW x.s ++ 32 :: itK x) (nm_blank f0 (show x.f < 16 by omega))
  obtain ⟨c1, c2, _⟩ := cut_one (b := itK x) (nm_blank (show 0 ≤ x.s by omega) s1)
  have hT : tmT x.t = tmL x.t := if_pos ⟨t0, t1⟩
  have hR : (rdI (tmT x.t)).1 = x.t := by rw [hT, (rd_yes t0 t1).1]
  have e : itL x = tmT x.t ++ 32 :: (nmW x.f ++ 32 :: (nmW x.s ++ 32 :: itK x)) := rfl
  unfold irI
  rw [e, a1, a2, b1, b2, c1, c2, hR, nm_pI f0 (by omega), nm_pI (by omega) s1]
  rcases hk with ⟨k1, k2⟩ | ⟨_, k0, k1, r0, r1⟩
  · have e2 : itK x = rwW 5 := by unfold itK; rw [if_pos k1, k2]
    have c3 := cut_none 5 (by decide)
    unfold pcK pcW
    rw [e2, c3, if_neg (by decide), if_neg (by decide), pI_neg, ix_rw 5 (by decide), ← k1, ← k2]
  · have e2 : itK x = nmW x.k ++ 32 :: rwW x.r := by unfold itK; rw [if_neg (by omega)]
    obtain ⟨d1, d2, d3⟩ := cut_one (b := rwW x.r) (nm_blank k0 k1)
    unfold pcK pcW
    rw [e2, d3, if_pos rfl, if_pos rfl, d1, d2, nm_pI k0 k1, ix_rw x.r (r4 r0 r1)]

/-- The reference's number of a reason's word. -/
def sxN (w : List UInt8) : Int := if w = wTurning then 1 else if w = wPortR then 2 else if w = wAstern then 3 else if w = wWindward then 4 else 5
theorem sx_rw : ∀ r ∈ ([1, 2, 3, 4, 5] : List Int), sxN (rwW r) = r := by decide
/-- The word number i of a list. -/
def wi (ws : List (List UInt8)) (i : Nat) : List UInt8 := ws.getD i []
/-- What the reference reads. -/
def irS (ws : List (List UInt8)) : I5 := ⟨(rdS (wi ws 0)).1, (if vOk (wi ws 1) = true then vN (wi ws 1) else 0), (if vOk (wi ws 2) = true then vN (wi ws 2) else 0), (if ws.length = 5 then (if vOk (wi ws 3) = true then vN (wi ws 3) else 0) else -1), (if ws.length = 5 then sxN (wi ws 4) else 5)⟩
/-- Does the reference take it? -/
def irG (ws : List (List UInt8)) : Bool := (rdS (wi ws 0)).2 && (vOk (wi ws 1) && vOk (wi ws 2))
theorem cut_text {x : I5} (h : iiB x = true) : cutB 32 (itL x) = itW x := by
  obtain ⟨⟨t0, t1⟩, f0, f1, s1, hk⟩ := ii_bd h
  unfold itL itW kwW
  rw [cutB_hit 32 _ (tm_blank t0 t1), cutB_hit 32 _ (nm_blank f0 (by omega)), cutB_hit 32 _ (nm_blank (by omega) s1)]
  rcases hk with ⟨k1, k2⟩ | ⟨_, k0, k1, r0, r1⟩
  · have e2 : itK x = rwW 5 := by unfold itK; rw [if_pos k1, k2]
    rw [e2, if_pos k1, k2, cutB_last 32 _ (rw_blank 5 (by decide))]; rfl
  · have e2 : itK x = nmW x.k ++ 32 :: rwW x.r := by unfold itK; rw [if_neg (by omega)]
    rw [e2, if_neg (by omega), cutB_hit 32 _ (nm_blank k0 k1), cutB_last 32 _ (rw_blank x.r (r4 r0 r1))]; rfl
theorem is_text {x : I5} (h : iiB x = true) : irS (itW x) = x ∧ irG (itW x) = true ∧ ((itW x).length = 4 ∨ (itW x).length = 5) := by
  obtain ⟨⟨t0, t1⟩, f0, f1, s1, hk⟩ := ii_bd h
  have hT : tmT x.t = tmL x.t := if_pos ⟨t0, t1⟩
  have hR : rdS (tmT x.t) = (x.t, true) := by rw [hT, (rd_yes t0 t1).2]
  obtain ⟨f2, f3⟩ := nm_vOk f0 (show x.f < 16 by omega)
  obtain ⟨s2, s3⟩ := nm_vOk (show 0 ≤ x.s by omega) s1
  rcases hk with ⟨k1, k2⟩ | ⟨_, k0, k1, r0, r1⟩
  · have e : itW x = [tmT x.t, nmW x.f, nmW x.s, rwW x.r] := by unfold itW kwW; rw [if_pos k1]; rfl
    have w0 : wi (itW x) 0 = tmT x.t := by rw [e]; rfl
    have w1 : wi (itW x) 1 = nmW x.f := by rw [e]; rfl
    have w2 : wi (itW x) 2 = nmW x.s := by rw [e]; rfl
    have l : (itW x).length = 4 := by rw [e]; rfl
    unfold irS irG
    rw [w0, w1, w2, l, hR, f2, s2, f3, s3]
    refine ⟨?_, rfl, .inl rfl⟩
    rw [if_pos rfl, if_pos rfl, if_neg (by decide), if_neg (by decide), ← k1, ← k2]
  · have e : itW x = [tmT x.t, nmW x.f, nmW x.s, nmW x.k, rwW x.r] := by unfold itW kwW; rw [if_neg (by omega)]; rfl
    obtain ⟨k2, k3⟩ := nm_vOk k0 k1
    have w0 : wi (itW x) 0 = tmT x.t := by rw [e]; rfl
    have w1 : wi (itW x) 1 = nmW x.f := by rw [e]; rfl
    have w2 : wi (itW x) 2 = nmW x.s := by rw [e]; rfl
    have w3 : wi (itW x) 3 = nmW x.k := by rw [e]; rfl
    have w4 : wi (itW x) 4 = rwW x.r := by rw [e]; rfl
    have l : (itW x).length = 5 := by rw [e]; rfl
    unfold irS irG
    rw [w0, w1, w2, w3, w4, l, hR, f2, s2, f3, s3, k2, k3]
    refine ⟨?_, rfl, .inr rfl⟩
    rw [if_pos rfl, if_pos rfl, if_pos rfl, if_pos rfl, if_pos rfl, sx_rw x.r (r4 r0 r1)]

/-- What is read: an incident, or nothing. -/
def irO (l : List UInt8) : Option I5 := if iiB (irI l) = true ∧ itT (irI l) = l then some (irI l) else none
def iz : I5 := ⟨0, 0, 0, 0, 0⟩
def irX (l : List UInt8) : I5 := (irO l).getD iz
def irB (l : List UInt8) : Bool := (irO l).isSome
theorem ix_yes {l : List UInt8} {x : I5} (h : irO l = some x) : irX l = x ∧ irB l = true := by unfold irX irB; rw [h]; exact ⟨rfl, rfl⟩
theorem ix_no {l : List UInt8} (h : irO l = none) : irX l = iz ∧ irB l = false := by unfold irX irB; rw [h]; exact ⟨rfl, rfl⟩
theorem ir_some {x : I5} (h : iiB x = true) : irO (itL x) = some x := by
  unfold irO
  rw [ir_text h, if_pos ⟨h, it_yes h⟩]
/-- The reference takes a text: it is that of the incident that it read. -/
theorem is_yes {l : List UInt8} (hn : (cutB 32 l).length = 4 ∨ (cutB 32 l).length = 5) (h : itT (irS (cutB 32 l)) = l) : irO l = some (irS (cutB 32 l)) := by
  cases hv : iiB (irS (cutB 32 l))
  · rw [it_no hv] at h
    subst h
    exact absurd hn (by decide)
  · rw [it_yes hv] at h
    have := ir_some hv
    rw [h] at this
    exact this
theorem is_no {l : List UInt8} (h : ¬ (((cutB 32 l).length = 4 ∨ (cutB 32 l).length = 5) ∧ irG (cutB 32 l) = true ∧ itT (irS (cutB 32 l)) = l)) : irO l = none := by
  unfold irO
  rw [if_neg]
  rintro ⟨hv, ht⟩
  apply h
  rw [it_yes hv] at ht
  have hc := cut_text hv
  rw [ht] at hc
  obtain ⟨i1, i2, i3⟩ := is_text hv
  rw [hc, i1]
  exact ⟨i3, i2, by rw [it_yes hv]; exact ht⟩

end Go.Proofs.YtknelhceaoblhaaDoor.IncT
