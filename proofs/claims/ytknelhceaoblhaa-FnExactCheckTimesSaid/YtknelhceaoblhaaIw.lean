/- Check times, near times, incidents of a pair (chapter 12): words; no program is named here. -/
import Derived.Test.YtknelhceaoblhaaNum
namespace Go.Proofs.Ytknelhceaoblhaa.Iw
open Go.Proofs.Ytknelhceaoblhaa.Num
set_option linter.unusedVariables false
set_option linter.unusedSimpArgs false

/-- n times from z on, a step p apart. -/
def ckZ (z p : Int) (n : Nat) : List Int := (List.range n).map fun k : Nat => z + (k : Int) * p
theorem ck_len (z p : Int) (n : Nat) : (ckZ z p n).length = n := by simp [ckZ]
theorem ck_snoc (z p : Int) (n : Nat) : ckZ z p (n + 1) = ckZ z p n ++ [z + (n : Int) * p] := by simp [ckZ, List.range_succ]
theorem ck_at {z p : Int} {n i : Nat} (h : i < n) : (ckZ z p n).getD i 0 = z + (i : Int) * p := by
  rw [List.getD_eq_getElem?_getD]; simp [ckZ, h]
theorem ck_next (z p : Int) (k : Nat) : z + (k : Int) * p + p = z + ((k + 1 : Nat) : Int) * p := by
  rw [Int.natCast_add, Int.add_mul]; omega
theorem ck_cons (z p : Int) (n : Nat) : ckZ z p (n + 1) = z :: ckZ (z + p) p n := by
  unfold ckZ
  rw [List.range_succ_eq_map, List.map_cons, List.map_map]
  have h : ∀ k : Nat, z + ((k + 1 : Nat) : Int) * p = z + p + (k : Int) * p := fun k => by
    rw [Int.natCast_add, Int.add_mul]; omega
  congr 1
  · simp
  · exact List.map_congr_left fun k _ => by simpa using h k
/-- How many multiples there are from z up to e. -/
def ckN (z p e : Int) : Nat := ((e - z + p) / p).toNat
theorem ck_lt {z p e : Int} (hp : 0 < p) (k : Nat) : k < ckN z p e ↔ z + (k : Int) * p ≤ e := by
  unfold ckN
  have h : k < ((e - z + p) / p).toNat ↔ (k : Int) + 1 ≤ (e - z + p) / p := by omega
  rw [h, Int.le_ediv_iff_mul_le hp, Int.add_mul]
  omega
theorem ck_end {z p e : Int} (hp : 0 < p) {k : Nat} (h1 : k ≤ ckN z p e) (h2 : ¬ z + (k : Int) * p ≤ e) : ckN z p e = k := by
  have : ¬ k < ckN z p e := fun h => h2 ((ck_lt (e := e) (z := z) hp k).1 h)
  omega
/-- The first multiple of a step that is not less than a time. -/
def ckF (f p : Int) : Int := (f + p - 1).tdiv p * p
theorem ckF_eq {f p : Int} (hf : 0 ≤ f) (hp : 1 ≤ p) : ckF f p = (f + p - 1) / p * p := by
  unfold ckF; rw [Int.tdiv_eq_ediv_of_nonneg (by omega)]
theorem ckF_bd {f p : Int} (hf : 0 ≤ f) (hp : 1 ≤ p) : f ≤ ckF f p ∧ ckF f p < f + p := by
  rw [ckF_eq hf hp]
  have h1 := Int.mul_ediv_add_emod (f + p - 1) p
  have h2 := Int.emod_nonneg (f + p - 1) (show p ≠ 0 by omega)
  have h3 := Int.emod_lt_of_pos (f + p - 1) (show 0 < p by omega)
  rw [Int.mul_comm] at h1
  omega
theorem ckQ_bd {f p : Int} (hf : 0 ≤ f) (hp : 1 ≤ p) : 0 ≤ (f + p - 1).tdiv p ∧ (f + p - 1).tdiv p ≤ f + p := by
  rw [Int.tdiv_eq_ediv_of_nonneg (by omega)]
  have h1 := Int.mul_ediv_add_emod (f + p - 1) p
  have h2 := Int.emod_nonneg (f + p - 1) (show p ≠ 0 by omega)
  have h4 : 0 ≤ (f + p - 1) / p := Int.ediv_nonneg (by omega) (by omega)
  refine ⟨h4, ?_⟩
  have h5 : 1 * ((f + p - 1) / p) ≤ p * ((f + p - 1) / p) := Int.mul_le_mul_of_nonneg_right hp h4
  omega
theorem ck_mem {z p : Int} {n : Nat} {t : Int} (h : t ∈ ckZ z p n) : ∃ k : Nat, k < n ∧ t = z + (k : Int) * p := by
  unfold ckZ at h
  obtain ⟨k, hk, rfl⟩ := List.mem_map.1 h
  exact ⟨k, by simpa using hk, rfl⟩

/-- Of near times those that are no step behind the one before (the program's loop). -/
def gI (p : Int) : Option Int → List Int → List Int
  | _, [] => []
  | o, t :: r => if o = some (t - p) then gI p (some t) r else t :: gI p (some t) r
/-- Of check times those that are near, the one before not (the reference's loop). -/
def gS (f : Int → Bool) : Bool → List Int → List Int
  | _, [] => []
  | b, t :: r => if f t = true then (if b = true then gS f true r else t :: gS f true r) else gS f false r
theorem gI_gS (f : Int → Bool) {p : Int} (hp : 0 < p) : ∀ (n : Nat) (t : Int) (o : Option Int) (b : Bool), (b = true ↔ o = some (t - p)) → (∀ q, o = some q → q ≤ t - p) → gI p o ((ckZ t p n).filter f) = gS f b (ckZ t p n)
  | 0, t, o, b, _, _ => by simp [ckZ, gI, gS]
  | n + 1, t, o, b, hb, ho => by
    rw [ck_cons]
    cases hf : f t
    · rw [List.filter_cons_of_neg (by simp [hf]), gS, if_neg (by simp [hf])]
      refine gI_gS f hp n (t + p) o false ⟨fun h => by simp at h, fun h => ?_⟩ (fun q hq => ?_)
      · have := ho _ h
        omega
      · have := ho q hq
        omega
    · rw [List.filter_cons_of_pos hf, gS, if_pos hf, gI]
      have e : gI p (some t) ((ckZ (t + p) p n).filter f) = gS f true (ckZ (t + p) p n) :=
        gI_gS f hp n (t + p) (some t) true ⟨fun _ => by congr 1; omega, fun _ => rfl⟩ (fun q hq => by cases hq; omega)
      by_cases h : o = some (t - p)
      · rw [if_pos h, if_pos (hb.2 h), e]
      · rw [if_neg h, if_neg (fun g => h (hb.1 g)), e]
/-- What the program's loop has kept of the first j near times. -/
def gIo (ns : List Int) (j : Nat) : Option Int := if j = 0 then none else some (ns.getD (j - 1) 0)
theorem gI_snoc (p : Int) : ∀ (ns : List Int) (o : Option Int) (t : Int), gI p o (ns ++ [t]) = gI p o ns ++ (if (ns.getLast?.or o) = some (t - p) then [] else [t])
  | [], o, t => by by_cases h : o = some (t - p) <;> simp [gI, h]
  | s :: r, o, t => by
    have ih := gI_snoc p r (some s) t
    have e : (((s :: r).getLast?).or o) = (r.getLast?.or (some s)) := by
      cases r with
      | nil => simp
      | cons a b => rw [List.getLast?_cons_cons]; cases h : (a :: b).getLast? with
        | none => simp at h
        | some x => simp
    rw [List.cons_append, gI, gI, e]
    by_cases h : o = some (s - p)
    · rw [if_pos h, if_pos h, ih]
    · rw [if_neg h, if_neg h, ih, List.cons_append]
theorem gI_take {p : Int} {ns : List Int} {j : Nat} (hj : j < ns.length) : gI p none (ns.take (j + 1)) = gI p none (ns.take j) ++ (if gIo ns j = some (ns.getD j 0 - p) then [] else [ns.getD j 0]) := by
  have h1 : ns.take (j + 1) = ns.take j ++ [ns.getD j 0] := by
    rw [List.take_succ_eq_append_getElem hj, List.getD_eq_getElem?_getD, List.getElem?_eq_getElem hj]; rfl
  rw [h1, gI_snoc]
  have h2 : ((ns.take j).getLast?.or none) = gIo ns j := by
    unfold gIo
    rcases Nat.eq_zero_or_pos j with e | e
    · subst e; simp
    · rw [if_neg (by omega), List.getLast?_eq_getElem?, List.length_take, show min j ns.length - 1 = j - 1 by omega, List.getElem?_take, if_pos (by omega), List.getD_eq_getElem?_getD, List.getElem?_eq_getElem (by omega)]; rfl
  rw [h2]
/-- The first k check times of the reference's loop, and whether the last one was near. -/
def gSb (f : Int → Bool) (zs : List Int) (j : Nat) : Bool := if j = 0 then false else f (zs.getD (j - 1) 0)
theorem gS_snoc (f : Int → Bool) : ∀ (zs : List Int) (b : Bool) (t : Int), gS f b (zs ++ [t]) = gS f b zs ++ (if f t = true ∧ ¬ ((zs.getLast?.map f).getD b) = true then [t] else [])
  | [], b, t => by
    cases hf : f t <;> cases b <;> simp [gS, hf]
  | s :: r, b, t => by
    have e : ∀ c, c = f s → (((s :: r).getLast?.map f).getD b) = ((r.getLast?.map f).getD c) := fun c hc => by
      cases r with
      | nil => simp [hc]
      | cons a q => rw [List.getLast?_cons_cons]; cases h : (a :: q).getLast? with
        | none => simp at h
        | some x => simp
    rw [List.cons_append, gS, gS]
    cases hf : f s
    · have ih := gS_snoc f r false t
      rw [if_neg (by decide), if_neg (by decide), ih, e false hf.symm]
    · have ih := gS_snoc f r true t
      rw [if_pos rfl, if_pos rfl]
      cases b
      · rw [if_neg (by decide), if_neg (by decide), ih, e true hf.symm, List.cons_append]
      · rw [if_pos rfl, if_pos rfl, ih, e true hf.symm]
theorem gS_take {f : Int → Bool} {zs : List Int} {j : Nat} (hj : j < zs.length) : gS f false (zs.take (j + 1)) = gS f false (zs.take j) ++ (if f (zs.getD j 0) = true ∧ ¬ gSb f zs j = true then [zs.getD j 0] else []) := by
  have h1 : zs.take (j + 1) = zs.take j ++ [zs.getD j 0] := by
    rw [List.take_succ_eq_append_getElem hj, List.getD_eq_getElem?_getD, List.getElem?_eq_getElem hj]; rfl
  rw [h1, gS_snoc]
  have h2 : (((zs.take j).getLast?.map f).getD false) = gSb f zs j := by
    unfold gSb
    rcases Nat.eq_zero_or_pos j with e | e
    · subst e; simp
    · rw [if_neg (by omega), List.getLast?_eq_getElem?, List.length_take, show min j zs.length - 1 = j - 1 by omega, List.getElem?_take, if_pos (by omega), List.getD_eq_getElem?_getD, List.getElem?_eq_getElem (by omega)]; rfl
  rw [h2]
theorem gI_len (p : Int) : ∀ (ns : List Int) (o : Option Int), (gI p o ns).length ≤ ns.length
  | [], o => by simp [gI]
  | s :: r, o => by
    have := gI_len p r (some s)
    rw [gI]
    split <;> simp <;> omega

end Go.Proofs.Ytknelhceaoblhaa.Iw
