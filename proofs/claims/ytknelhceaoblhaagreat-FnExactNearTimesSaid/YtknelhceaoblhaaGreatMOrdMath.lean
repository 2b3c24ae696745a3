import Derived.Test.YtknelhceaoblhaaGreatMNum
import Derived.Test.YtknelhceaoblhaaGreatMKit
namespace Go.Proofs.YtknelhceaoblhaaGreat.Crs
open Go.ChangeShapes Go.WideShapes Go.ChangeAt Go.RowKit
set_option linter.unusedVariables false
set_option linter.unusedSimpArgs false
def ahB (p q : Int × Int) : Bool := if p.1 = q.1 then decide (p.2 < q.2) else decide (q.1 < p.1)
def cmI (p q : Int × Int) : Int := if p = q then 0 else if ahB p q then -1 else 1
theorem ah_irr (p : Int × Int) : ahB p p = false := by simp [ahB]
theorem cm_neg (p q : Int × Int) : decide (cmI p q < 0) = ahB p q := by
  unfold cmI
  split
  · rename_i h; rw [h, ah_irr]; rfl
  · cases ahB p q <;> rfl
def poO (p : Nat → Bool) : Nat → Nat
  | 0 => 0
  | n + 1 => if p n then poO p n else n + 1
theorem po_le (p : Nat → Bool) : ∀ n, poO p n ≤ n
  | 0 => Nat.le_refl _
  | n + 1 => by unfold poO; split; have := po_le p n; omega; omega
theorem po_at {p : Nat → Bool} : ∀ {n j : Nat}, poO p n = j + 1 → p j = false
  | 0, j, h => by simp [poO] at h
  | n + 1, j, h => by
    unfold poO at h
    split at h
    · exact po_at h
    · rename_i g; simp at h; subst h; simpa using g
theorem po_behind {p : Nat → Bool} : ∀ {n j : Nat}, poO p n ≤ j → j < n → p j = true
  | 0, j, _, h => absurd h (by omega)
  | n + 1, j, h, g => by
    unfold poO at h
    split at h
    · rename_i q
      rcases Nat.lt_or_ge j n with e | e
      · exact po_behind h e
      · have : j = n := by omega
        subst this; exact q
    · omega
end Go.Proofs.YtknelhceaoblhaaGreat.Crs
namespace Go.Proofs.YtknelhceaoblhaaGreat.Isr
open Go.Proofs.YtknelhceaoblhaaGreat.Crs (poO po_le po_at po_behind)
set_option linter.unusedVariables false
set_option linter.unusedSimpArgs false
abbrev Ky := Int × Int × Int
def ltK (p q : Ky) : Bool := if p.1 = q.1 then (if p.2.1 = q.2.1 then decide (p.2.2 < q.2.2) else decide (p.2.1 < q.2.1)) else decide (p.1 < q.1)
def cmK (p q : Ky) : Int := if p = q then 0 else if ltK p q then -1 else 1
theorem lk_iff (p q : Ky) : ltK p q = true ↔ (p.1 < q.1 ∨ (p.1 = q.1 ∧ (p.2.1 < q.2.1 ∨ (p.2.1 = q.2.1 ∧ p.2.2 < q.2.2)))) := by
  unfold ltK
  split
  · split <;> simp <;> omega
  · simp; omega
theorem lk_irr (p : Ky) : ltK p p = false := by simp [ltK]
theorem lk_false (p q : Ky) : ltK p q = false ↔ ¬ (p.1 < q.1 ∨ (p.1 = q.1 ∧ (p.2.1 < q.2.1 ∨ (p.2.1 = q.2.1 ∧ p.2.2 < q.2.2)))) := by
  rw [← lk_iff]; simp
theorem lk_asym {p q : Ky} (h : ltK p q = true) : ltK q p = false := by
  rw [lk_iff] at h; rw [lk_false]; omega
theorem lk_ntrans {p q r : Ky} (h : ltK p q = false) (g : ltK q r = false) : ltK p r = false := by
  rw [lk_false] at *; omega
theorem lk_tri {p q : Ky} (h : ltK p q = false) (g : ltK q p = false) : p = q := by
  rw [lk_false] at *
  obtain ⟨a, b, c⟩ := p
  obtain ⟨d, e, f⟩ := q
  simp at *
  omega
theorem cm_neg (p q : Ky) : decide (cmK p q < 0) = ltK p q := by
  unfold cmK
  split
  · rename_i h; rw [h, lk_irr]; rfl
  · cases ltK p q <;> rfl
def So (l : List Ky) : Prop := l.Pairwise fun a b => ltK b a = false
def kd : Ky := (0, 0, 0)
def atK (x : Ky) (l : List Ky) : Nat := poO (fun j => ltK x (l.getD j kd)) l.length
def insK (x : Ky) (l : List Ky) : List Ky := l.take (atK x l) ++ x :: l.drop (atK x l)
theorem ins_perm (x : Ky) (l : List Ky) : (insK x l).Perm (x :: l) := by
  unfold insK
  refine List.perm_middle.trans ?_
  rw [List.take_append_drop]
theorem getD_at {l : List Ky} {j : Nat} (h : j < l.length) : l.getD j kd = l[j] := by
  rw [List.getD_eq_getElem?_getD, List.getElem?_eq_getElem h]; rfl
theorem ins_so {x : Ky} {l : List Ky} (h : So l) : So (insK x l) := by
  have hle := po_le (fun j => ltK x (l.getD j kd)) l.length
  have hat : atK x l ≤ l.length := hle
  have hp := List.pairwise_iff_getElem.1 h
  have key : ∀ j (hj : j < l.length), j < atK x l → ltK x l[j] = false := by
    intro j hj hja
    have h1 : ltK x (l.getD (atK x l - 1) kd) = false := po_at (p := fun j => ltK x (l.getD j kd)) (n := l.length) (j := atK x l - 1) (by unfold atK at hja ⊢; omega)
    rw [getD_at (by omega)] at h1
    rcases Nat.lt_or_ge j (atK x l - 1) with g | g
    · exact lk_ntrans h1 (hp j (atK x l - 1) hj (by omega) g)
    · have : j = atK x l - 1 := by omega
      subst this; exact h1
  have key2 : ∀ j (hj : j < l.length), atK x l ≤ j → ltK l[j] x = false := by
    intro j hj hja
    have h1 : ltK x (l.getD j kd) = true := po_behind (p := fun j => ltK x (l.getD j kd)) (n := l.length) hja hj
    rw [getD_at hj] at h1
    exact lk_asym h1
  unfold So insK
  rw [List.pairwise_append]
  refine ⟨h.sublist (List.take_sublist _ _), List.pairwise_cons.2 ⟨fun b hb => ?_, h.sublist (List.drop_sublist _ _)⟩, fun a ha b hb => ?_⟩
  · obtain ⟨i, hi, rfl⟩ := List.mem_iff_getElem.1 hb
    rw [List.getElem_drop]
    simp at hi
    exact key2 _ (by omega) (by omega)
  · obtain ⟨i, hi, rfl⟩ := List.mem_iff_getElem.1 ha
    rw [List.getElem_take]
    simp at hi
    rcases List.mem_cons.1 hb with rfl | hb
    · exact key i (by omega) (by omega)
    · obtain ⟨j, hj, rfl⟩ := List.mem_iff_getElem.1 hb
      rw [List.getElem_drop]
      simp at hj
      exact hp i _ (by omega) (by omega) (by omega)
def insL (l : List Ky) (xs : List Ky) : List Ky := xs.foldl (fun l x => insK x l) l
theorem insL_so : ∀ (xs l : List Ky), So l → So (insL l xs)
  | [], l, h => h
  | x :: xs, l, h => insL_so xs (insK x l) (ins_so h)
theorem insL_perm : ∀ (xs l : List Ky), (insL l xs).Perm (l ++ xs)
  | [], l => by simp [insL]
  | x :: xs, l => by
    refine (insL_perm xs (insK x l)).trans ?_
    refine ((ins_perm x l).append_right xs).trans ?_
    exact List.perm_middle.symm
def ltC (p q : Ky) : Bool := decide (cmK p q < 0)
def srtK (ss : List Ky) : List Ky := ss.mergeSort fun x y => !ltC y x
theorem lt_cm (p q : Ky) : ltC p q = ltK p q := cm_neg p q
theorem srt_so (ss : List Ky) : So (srtK ss) := by
  have h1 : (srtK ss).Pairwise (fun x y => (!ltC y x) = true) := by
    refine List.pairwise_mergeSort (fun a b c h g => ?_) (fun a b => ?_) ss
    · rw [lt_cm] at *
      simp only [Bool.not_eq_true'] at *
      exact lk_ntrans g h
    · rw [lt_cm, lt_cm]
      cases e : ltK b a
      · rfl
      · rw [lk_asym e]; rfl
  refine h1.imp fun {p q} h => ?_
  rw [lt_cm, Bool.not_eq_true'] at h
  exact h
theorem srt_perm (ss : List Ky) : (srtK ss).Perm ss := List.mergeSort_perm _ _
theorem so_same {a b : List Ky} (ha : So a) (hb : So b) (h : a.Perm b) : a = b :=
  List.Perm.eq_of_pairwise (fun x y _ _ h1 h2 => lk_tri h2 h1) ha hb h
def rowK (T : Nat → Nat → List Int) (i k : Nat) : List Ky := (T i k).map fun t => (t, (i : Int), (k : Int))
def sRow (T : Nat → Nat → List Int) (i : Nat) : Nat → List Ky
  | 0 => []
  | k + 1 => sRow T i k ++ (if i < k then rowK T i k else [])
def sAll (T : Nat → Nat → List Int) (n : Nat) : Nat → List Ky
  | 0 => []
  | i + 1 => sAll T n i ++ sRow T i n
def iRow (T : Nat → Nat → List Int) (k : Nat) : Nat → List Ky
  | 0 => []
  | i + 1 => iRow T k i ++ rowK T i k
def iAll (T : Nat → Nat → List Int) : Nat → List Ky
  | 0 => []
  | k + 1 => iAll T k ++ iRow T k k
theorem sRow_none (T : Nat → Nat → List Int) (i : Nat) : ∀ k, k ≤ i + 1 → sRow T i k = []
  | 0, _ => rfl
  | k + 1, h => by rw [sRow, sRow_none T i k (by omega), if_neg (by omega)]; rfl
theorem sAll_step (T : Nat → Nat → List Int) (n : Nat) : ∀ i, i ≤ n → (sAll T (n + 1) i).Perm (sAll T n i ++ iRow T n i)
  | 0, _ => by simp [sAll, iRow]
  | i + 1, h => by
    have ih := sAll_step T n i (by omega)
    rw [sAll, sAll, iRow, sRow, if_pos (by omega)]
    refine (ih.append_right _).trans ?_
    simp only [List.append_assoc]
    refine List.Perm.append_left _ ?_
    rw [← List.append_assoc, ← List.append_assoc (sRow T i n)]
    exact (List.perm_append_comm).append_right _
theorem s_i (T : Nat → Nat → List Int) : ∀ n, (sAll T n n).Perm (iAll T n)
  | 0 => by simp [sAll, iAll]
  | n + 1 => by
    rw [sAll, iAll, sRow_none T n (n + 1) (by omega), List.append_nil]
    exact (sAll_step T n n (Nat.le_refl _)).trans ((s_i T n).append_right _)
theorem both (T : Nat → Nat → List Int) (n : Nat) : insL [] (sAll T n n) = srtK (iAll T n) := by
  refine so_same (insL_so _ _ (by simp [So])) (srt_so _) ?_
  refine (insL_perm _ _).trans ?_
  rw [List.nil_append]
  exact (s_i T n).trans (srt_perm _).symm
end Go.Proofs.YtknelhceaoblhaaGreat.Isr
