import Derived.Test.YtplbahdomjeekaaGreatZon11
import Derived.Test.YtplbahdomjeekaaGreatLik
import Derived.Test.YtplbahdomjeekaaGreatHin
namespace Go.Proofs.YtplbahdomjeekaaGreat.Crs
open Go.ChangeShapes Go.WideShapes Go.ChangeAt Go.RowKit Go.PlainAid
open Go.Proofs.YtplbahdomjeekaaGreat.Num Go.Proofs.YtplbahdomjeekaaGreat.Kit Go.Proofs.YtplbahdomjeekaaGreat.Pts Go.Proofs.YtplbahdomjeekaaGreat.Seg
open Go.Proofs.YtplbahdomjeekaaGreat.Trk (F3 Fxs Tr trB fx)
set_option linter.unusedVariables false
set_option linter.unusedSimpArgs false
def vsS : List V2 → Int
  | [] => 0
  | v :: r => (v.l - v.f + 1) + vsS r
theorem vsS_app : ∀ (a b : List V2), vsS (a ++ b) = vsS a + vsS b
  | [], b => by simp [vsS]
  | v :: r, b => by rw [List.cons_append, vsS, vsS, vsS_app r b]; omega
theorem vsS_one (v : V2) : vsS [v] = v.l - v.f + 1 := by simp [vsS]
def Asc (zs : List Int) : Prop := ∀ i, i + 1 < zs.length → nz zs i < nz zs (i + 1)
theorem tz_asc (m : M5) (fs : List F3) : Asc (tzL m fs) := by
  have h : (tzL m fs).Pairwise (· < ·) := by
    unfold tzL tgL tgN
    rw [List.pairwise_map]
    exact (List.Pairwise.filter _ List.pairwise_lt_range).imp (fun h => by omega)
  intro i hi
  rw [nz_get (by omega), nz_get hi]
  exact List.pairwise_iff_getElem.1 h i (i + 1) (by omega) hi (by omega)
structure VsI (zs : List Int) (j : Nat) (vs : List V2) : Prop where
  mem : ∀ v ∈ vs, v.f ≤ v.l ∧ ∀ x, v.f ≤ x → x ≤ v.l → x ∈ zs
  sep : ∀ i, i + 1 < vs.length → (vx vs i).l + 1 < (vx vs (i + 1)).f
  sum : vsS vs = j
  last : ∀ is v, vs = is ++ [v] → 0 < j ∧ v.l = nz zs (j - 1)
theorem vsI {zs : List Int} (ha : Asc zs) : ∀ j, j ≤ zs.length → VsI zs j (vsN zs j)
  | 0, _ => ⟨fun v hv => by simp [vsN] at hv, fun i hi => by simp [vsN] at hi, rfl, fun is v h => by simp [vsN] at h⟩
  | j + 1, hj => by
    have I := vsI ha j (by omega)
    have hg := nz_mem (show j < zs.length by omega)
    rw [show vsN zs (j + 1) = vsStep (vsN zs j) (nz zs j) from rfl]
    rcases List.eq_nil_or_concat (vsN zs j) with he | ⟨is, v, he⟩
    · rw [he] at I ⊢
      rw [vs_nil]
      have hs := I.sum
      simp [vsS] at hs
      refine ⟨fun v hv => ?_, fun i hi => by simp at hi, by rw [vsS_one]; show nz zs j - nz zs j + 1 = _; omega, fun is v h => ?_⟩
      · simp at hv; subst hv
        exact ⟨Int.le_refl _, fun x h1 h2 => by rw [show x = nz zs j by simp at h1 h2; omega]; exact hg⟩
      · have h2 := congrArg List.getLast? h
        simp at h2
        refine ⟨by omega, ?_⟩
        rw [← h2]; simp
    · rw [List.concat_eq_append] at he
      rw [he] at I ⊢
      obtain ⟨j0, hl⟩ := I.last is v rfl
      have hlt : v.l < nz zs j := by
        have := ha (j - 1) (by omega)
        rw [show j - 1 + 1 = j by omega, ← hl] at this; exact this
      have hv := I.mem v (by simp)
      have hs := I.sum
      rw [vsS_app, vsS_one] at hs
      by_cases h : v.l + 1 = nz zs j
      · rw [vs_ext h]
        refine ⟨fun u hu => ?_, fun i hi => ?_, ?_, fun is' u hu => ?_⟩
        · rcases List.mem_append.1 hu with hu | hu
          · exact I.mem u (by simp [hu])
          · simp at hu; subst hu
            refine ⟨by have := hv.1; simp; omega, fun x h1 h2 => ?_⟩
            by_cases hx : x ≤ v.l
            · exact hv.2 x h1 hx
            · rw [show x = nz zs j by simp at h2; omega]; exact hg
        · have hi2 : i + 1 < is.length + 1 := by simpa using hi
          have := I.sep i (by simpa using hi)
          rw [vx_snoc, vx_snoc, if_pos (show i < is.length by omega)] at this ⊢
          by_cases g1 : i + 1 < is.length
          · rw [if_pos g1] at this ⊢; exact this
          · rw [if_neg g1, if_pos (show i + 1 = is.length by omega)] at this ⊢; exact this
        · rw [vsS_app, vsS_one]; simp; omega
        · have h2 := congrArg List.getLast? hu
          simp at h2
          refine ⟨by omega, ?_⟩
          rw [← h2]; simp
      · rw [vs_new h]
        refine ⟨fun u hu => ?_, fun i hi => ?_, ?_, fun is' u hu => ?_⟩
        · rcases List.mem_append.1 hu with hu | hu
          · exact I.mem u hu
          · simp at hu; subst hu
            exact ⟨Int.le_refl _, fun x h1 h2 => by rw [show x = nz zs j by simp at h1 h2; omega]; exact hg⟩
        · have hi2 : i + 1 < is.length + 1 + 1 := by simpa using hi
          rw [vx_snoc (is ++ [v]) _ i, vx_snoc (is ++ [v]) _ (i + 1), if_pos (show i < (is ++ [v]).length by simp; omega)]
          by_cases g1 : i + 1 < (is ++ [v]).length
          · rw [if_pos g1]; exact I.sep i g1
          · have e : i = is.length := by simp at g1; omega
            rw [if_neg g1, if_pos (show i + 1 = (is ++ [v]).length by simp; omega), vx_snoc is v i, if_neg (by omega), if_pos e]
            simp; omega
        · rw [vsS_app, vsS_app, vsS_one, vsS_one]; simp; omega
        · have h2 := congrArg List.getLast? hu
          simp at h2
          refine ⟨by omega, ?_⟩
          rw [← h2]; simp
theorem vsS_take {vs : List V2} {j : Nat} (h : j < vs.length) : vsS (vs.take (j + 1)) = vsS (vs.take j) + ((vx vs j).l - (vx vs j).f + 1) := by
  rw [List.take_add_one, vsS_app, vx_at h]; simp [vsS_one]
theorem vsS_nonneg : ∀ {vs : List V2}, (∀ v ∈ vs, v.f ≤ v.l) → 0 ≤ vsS vs
  | [], _ => by simp [vsS]
  | v :: r, h => by have := vsS_nonneg (vs := r) (fun u hu => h u (by simp [hu])); have := h v (by simp); rw [vsS]; omega
theorem vsS_le {vs : List V2} (h : ∀ v ∈ vs, v.f ≤ v.l) (j : Nat) : 0 ≤ vsS (vs.take j) ∧ vsS (vs.take j) ≤ vsS vs := by
  have e := vsS_app (vs.take j) (vs.drop j)
  rw [List.take_append_drop] at e
  have a := vsS_nonneg (vs := vs.take j) (fun v hv => h v (List.mem_of_mem_take hv))
  have b := vsS_nonneg (vs := vs.drop j) (fun v hv => h v (List.mem_of_mem_drop hv))
  omega
end Go.Proofs.YtplbahdomjeekaaGreat.Crs
