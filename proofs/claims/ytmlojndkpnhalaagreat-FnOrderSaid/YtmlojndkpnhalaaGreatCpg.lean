import Derived.Test.YtmlojndkpnhalaaGreatMOrdMath
import Derived.Sort.Grow
import Derived.Sort.WalkA
import Derived.ChangeKeysEq
namespace Go.Proofs.YtmlojndkpnhalaaGreat.Crs
open Go.ChangeShapes Go.WideShapes Go.ChangeAt Go.RowKit
open Go.Proofs.YtmlojndkpnhalaaGreat.Num Go.Proofs.YtmlojndkpnhalaaGreat.Kit
set_option linter.unusedVariables false
set_option linter.unusedSimpArgs false
set_option maxHeartbeats 1000000 in
theorem isAheadPg_any (p q : Int × Int) (w : World) : Calls Tryz.prog 139 #[pV p, pV q] w fun e w' => e = .returned (.bool (ahB p q)) ∧
    w' = (w.alloc (.cells #[.int .i64 p.1, .int .i64 p.2] 113)).alloc (.cells #[.int .i64 q.1, .int .i64 q.2] 113) := by
  obtain ⟨a, b⟩ := p
  obtain ⟨c, d⟩ := q
  have H := Lib.hid (show (a = c → ahB (a, b) (c, d) = decide (b < d)) ∧ (¬ a = c → ahB (a, b) (c, d) = decide (c < a)) from ⟨fun h => by simp [ahB, h], fun h => by simp [ahB, h]⟩)
  go_enter Tryz.func139, Tryz.ntmps139
  by_cases h : a = c
  · have H1 := Lib.hid (H.out.1 h)
    subst h
    go_wp2
    go_ret
    exact ⟨ret_bool H1.out, rfl⟩
  · have H1 := Lib.hid (H.out.2 h)
    go_wp2
    go_ret
    exact ⟨ret_bool H1.out, rfl⟩
theorem wordInfo : ∃ i, Tryz.prog.info? 2 = some i := by
  have h : (Tryz.prog.info? 2).isSome = true := by kernel_rfl
  exact Option.isSome_iff_exists.1 h
theorem eqP_run (a b c d : Int) (W : World) : (Op.equalIn 10000 113 (.agg #[.int .i64 a, .int .i64 b]) (.agg #[.int .i64 c, .int .i64 d])).run Tryz.prog W = .ok (decide (a = c ∧ b = d)) W := by
  obtain ⟨i, hi⟩ := wordInfo
  have he : Tryz.prog.underlying 2 = some (.int .i64) := Tryz.underlying2
  have p0 : ∀ x y : Int, (part 2 #[.int .i64 x, .int .i64 y] (0 * 1)).run Tryz.prog W = .ok (.int .i64 x) W := fun x y => run_part_plain W pArr.plain rfl
  have p1 : ∀ x y : Int, (part 2 #[.int .i64 x, .int .i64 y] (1 * 1)).run Tryz.prog W = .ok (.int .i64 y) W := fun x y => run_part_plain W pArr.plain rfl
  have q : ∀ x y : Int, (Op.equalIn 9999 2 (.int .i64 x) (.int .i64 y)).run Tryz.prog W = .ok (x == y) W := fun x y => run_equalIn_int W 9998 2 .i64 .i64 x y he
  have p2 : ∀ x y : Int, (part 2 #[.int .i64 x, .int .i64 y] 1).run Tryz.prog W = .ok (.int .i64 y) W := fun x y => run_part_plain W pArr.plain rfl
  rw [run_equalIn_array W 9999 _ _ pArr.hu hi, show List.range 2 = [0, 1] from rfl, pArr.one]
  simp only [Op.eqItems, Sem.run_bind, p0, p1, q, Result.andThen_ok]
  by_cases h : a = c
  · subst h
    by_cases g : b = d
    · subst g; simp [p2, q]
    · simp [g, p2, q]
  · simp [h]
set_option maxRecDepth 100000 in
set_option maxHeartbeats 1000000 in
theorem comparePg_any (p q : Int × Int) (w : World) : Calls Tryz.prog 74 #[pV p, pV q] w fun e w' => e = .returned (.int .i64 (cmI p q)) ∧ ∃ n os', w' = Go.Sort.grow (w.drewN n) os' := by
  obtain ⟨a, b⟩ := p
  obtain ⟨c, d⟩ := q
  have H := Lib.hid (show ((a = c ∧ b = d) → cmI (a, b) (c, d) = 0) ∧ (¬ (a = c ∧ b = d) → cmI (a, b) (c, d) = if ahB (a, b) (c, d) then -1 else 1) from ⟨fun h => by simp [cmI, h], fun h => by simp [cmI, h]⟩)
  have hA := Lib.hid (fun w => isAheadPg_any (a, b) (c, d) w)
  generalize ahB (a, b) (c, d) = r at hA H
  generalize cmI (a, b) (c, d) = z at H ⊢
  have hE := fun W => eqP_run a b c d W
  go_enter Tryz.func74, Tryz.ntmps74
  by_cases h : a = c ∧ b = d
  · have H1 := Lib.hid (H.out.1 h)
    have hD : decide (a = c ∧ b = d) = true := decide_eq_true h
    rw [hD] at hE
    clear hD h H hA
    go_wp2
    go_ret
    rw [H1.out]
    exact ⟨rfl, 0, _, by rw [Go.Sort.alloc_eq_grow, Go.Sort.alloc_eq_grow, Go.Sort.grow_grow]; rfl⟩
  · have H1 := Lib.hid (H.out.2 h)
    have hD : decide (a = c ∧ b = d) = false := decide_eq_false h
    rw [hD] at hE
    clear H hD
    cases r
    · have H2 := Lib.hid (show z = 1 from H1.out)
      clear H1
      go_wp2_with (go_at_call 139; refine (hA.out _).mono ?_; rintro e w' ⟨rfl, rfl⟩)
      go_ret
      rw [H2.out]
      exact ⟨rfl, 0, _, by rw [Go.Sort.alloc_eq_grow, Go.Sort.alloc_eq_grow, Go.Sort.alloc_eq_grow, Go.Sort.alloc_eq_grow, Go.Sort.grow_grow, Go.Sort.grow_grow, Go.Sort.grow_grow]; rfl⟩
    · have H2 := Lib.hid (show z = -1 from H1.out)
      clear H1
      go_wp2_with (go_at_call 139; refine (hA.out _).mono ?_; rintro e w' ⟨rfl, rfl⟩)
      go_ret
      rw [H2.out]
      exact ⟨rfl, 0, _, by rw [Go.Sort.alloc_eq_grow, Go.Sort.alloc_eq_grow, Go.Sort.alloc_eq_grow, Go.Sort.alloc_eq_grow, Go.Sort.grow_grow, Go.Sort.grow_grow, Go.Sort.grow_grow]; rfl⟩
end Go.Proofs.YtmlojndkpnhalaaGreat.Crs
