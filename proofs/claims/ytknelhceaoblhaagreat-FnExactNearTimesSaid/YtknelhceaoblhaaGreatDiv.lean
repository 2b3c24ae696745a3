import Derived.Test.YtknelhceaoblhaaGreatCmp
import Derived.Lib.ItoaNum
import Derived.Test.YtknelhceaoblhaaGreatDivM
import Derived.Laws.Bits64b
import Derived.Deep.LoopGhost
import Derived.Deep.DeepCutAuto
import Derived.Deep.CutBlock
import Derived.Deep.QuietTactic
import Derived.BigQuiet
namespace Go.Proofs.YtknelhceaoblhaaGreat.Div
open Go.ChangeShapes Go.WideShapes Go.ChangeAt Go.RowKit
open Go.Proofs.YtknelhceaoblhaaGreat.Num Go.Proofs.YtknelhceaoblhaaGreat.Kit Go.Proofs.YtknelhceaoblhaaGreat.Pts Go.Proofs.YtknelhceaoblhaaGreat.DivM
set_option linter.unusedVariables false
set_option linter.unusedSimpArgs false
theorem div64_zero (lo y : Nat) (w : World) (y1 : 1 ≤ y) (y2 : y ≤ 100000000000000) (l2 : lo < 18446744073709551616) :
    Calls Tryz.prog 216 #[.int .u64 0, .int .u64 lo, .int .u64 y] w fun e w' => e = .returned (.tuple #[.int .u64 ((lo / y : Nat) : Int), .int .u64 ((lo % y : Nat) : Int)]) ∧ Ext w w' := by
  have b1 : lo / y ≤ lo := Nat.div_le_self _ _
  have b2 : lo % y < y := Nat.mod_lt _ (by omega)
  have e0 : ((y : Int) == 0) = false := beq_eq_false_iff_ne.2 (by omega)
  have p1 : (1 : Int) ≤ (y : Int) := by omega
  have H1 := Lib.hid (show ((lo / y : Nat) : Int) = (lo : Int) / (y : Int) from Int.natCast_ediv lo y)
  have H2 := Lib.hid (show ((lo % y : Nat) : Int) = (lo : Int) % (y : Int) from Int.natCast_emod lo y)
  have q1 : 0 ≤ (lo : Int) / (y : Int) ∧ (lo : Int) / (y : Int) ≤ lo := ⟨Int.ediv_nonneg (by omega) (by omega), by rw [← H1.out]; exact Int.ofNat_le.2 b1⟩
  have q2 : 0 ≤ (lo : Int) % (y : Int) ∧ (lo : Int) % (y : Int) < y := ⟨Int.emod_nonneg _ (by omega), Int.emod_lt_of_pos _ (by omega)⟩
  obtain ⟨q11, q12⟩ := q1
  obtain ⟨q21, q22⟩ := q2
  clear b1 b2
  go_enter Tryz.func216, Tryz.ntmps216
  go_wp2_with fail
  go_quiet (fail)
  go_wp2
  go_ret2
  exact ⟨ret_int2 H1.out H2.out, (Ext.refl _).drewN _⟩
structure Sh (hi lo y s Y H l1 u L : Nat) : Prop where
  s1 : 1 ≤ s
  s2 : s ≤ 63
  fy : Y = y * 2 ^ s
  y1 : 9223372036854775808 ≤ Y
  y2 : Y < 18446744073709551616
  fh : H = hi * 2 ^ s
  h2 : H < 18446744073709551616
  fl : l1 = lo / 2 ^ (64 - s)
  fu : u = H + l1
  l1lt : l1 < 2 ^ s
  fL : L = lo * 2 ^ s % 18446744073709551616
  ult : u < Y
  all : (hi * 18446744073709551616 + lo) * 2 ^ s = u * 18446744073709551616 + L
theorem sh_mk {hi lo y : Nat} (h1 : 1 ≤ hi) (h2 : hi < y) (y2 : y ≤ 100000000000000) (l2 : lo < 18446744073709551616) :
    ∃ s Y H l1 u L : Nat, (s : Int) = 64 - (Lib.bitLen y : Int) ∧ Sh hi lo y s Y H l1 u L := by
  obtain ⟨b1, b2, b3⟩ := Lib.bitLenAux_bounds 64 y (by omega) (by omega)
  have hb : Lib.bitLen y = Lib.bitLenAux 64 y := rfl
  rw [← hb] at b1 b2 b3
  generalize Lib.bitLen y = n at *
  have n2 : n ≤ 47 := by
    rcases Nat.lt_or_ge 47 n with h | h
    · have := Nat.pow_le_pow_right (show 0 < 2 by omega) (show 47 ≤ n - 1 by omega)
      have e : (2 : Nat) ^ 47 = 140737488355328 := by decide
      omega
    · exact h
  have eT : 2 ^ n * 2 ^ (64 - n) = (18446744073709551616 : Nat) := by rw [← Nat.pow_add, show n + (64 - n) = 64 by omega]
  have eT2 : 2 ^ (n - 1) * 2 ^ (64 - n) = (9223372036854775808 : Nat) := by rw [← Nat.pow_add, show n - 1 + (64 - n) = 63 by omega]
  have hT : 0 < 2 ^ (64 - n) := Nat.pow_pos (by omega)
  have eS : (64 - (64 - n)) = n := by omega
  have k1 : 2 ^ (n - 1) * 2 ^ (64 - n) ≤ y * 2 ^ (64 - n) := Nat.mul_le_mul_right _ b2
  have k2 : y * 2 ^ (64 - n) < 2 ^ n * 2 ^ (64 - n) := Nat.mul_lt_mul_of_pos_right b3 hT
  have k3 : hi * 2 ^ (64 - n) < y * 2 ^ (64 - n) := Nat.mul_lt_mul_of_pos_right h2 hT
  have k4 : lo / 2 ^ n < 2 ^ (64 - n) := by
    rw [Nat.div_lt_iff_lt_mul (Nat.pow_pos (by omega)), Nat.mul_comm, eT]; exact l2
  have k5 : lo * 2 ^ (64 - n) = lo / 2 ^ n * 18446744073709551616 + lo * 2 ^ (64 - n) % 18446744073709551616 := by
    have e1 : lo * 2 ^ (64 - n) / 18446744073709551616 = lo / 2 ^ n := by
      rw [← eT]; exact Nat.mul_div_mul_right lo (2 ^ n) hT
    have := Nat.div_add_mod (lo * 2 ^ (64 - n)) 18446744073709551616
    rw [e1] at this
    omega
  have k6 : hi * 2 ^ (64 - n) + 2 ^ (64 - n) ≤ y * 2 ^ (64 - n) := by
    have := Nat.mul_le_mul_right (2 ^ (64 - n)) (show hi + 1 ≤ y by omega)
    rw [Nat.add_mul, Nat.one_mul] at this
    exact this
  refine ⟨64 - n, y * 2 ^ (64 - n), hi * 2 ^ (64 - n), lo / 2 ^ n, hi * 2 ^ (64 - n) + lo / 2 ^ n, lo * 2 ^ (64 - n) % 18446744073709551616, by omega, ?_⟩
  refine ⟨by omega, by omega, rfl, by omega, by omega, rfl, by omega, by rw [eS], rfl, k4, rfl, by omega, ?_⟩
  rw [Nat.add_mul, Nat.mul_right_comm]
  omega
theorem or_add {H l s : Nat} {hi : Nat} (h : H = hi * 2 ^ s) (hl : l < 2 ^ s) : H ||| l = H + l := by
  subst h; rw [Nat.mul_comm]; exact (Nat.two_pow_add_eq_or_of_lt hl hi).symm
def RelD (u c Y n1 : Nat) (s t : Value) : Prop := ∃ k r : Nat, Inv u c Y n1 k r ∧ s = .int .u64 k ∧ t = .int .u64 r
theorem kn_bd {k n0 : Nat} (hk : k < 4294967296) (h0 : n0 < 4294967296) : k * n0 < 18446744073709551616 := by
  have := Nat.mul_le_mul (show k ≤ 4294967295 by omega) (show n0 ≤ 4294967295 by omega)
  omega
theorem wr {x : Nat} (h : x < 18446744073709551616) : IntKind.u64.wrap (x : Int) = (x : Int) := by rw [IntKind.wrap_u64]; omega
set_option maxRecDepth 100000 in
set_option maxHeartbeats 4000000 in
theorem div64_some (hi lo y : Nat) (w : World) (h1 : 1 ≤ hi) (h2 : hi < y) (y2 : y ≤ 100000000000000) (l2 : lo < 18446744073709551616) :
    Calls Tryz.prog 216 #[.int .u64 hi, .int .u64 lo, .int .u64 y] w fun e w' => e = .returned (.tuple #[.int .u64 (((hi * 18446744073709551616 + lo) / y : Nat) : Int), .int .u64 (((hi * 18446744073709551616 + lo) % y : Nat) : Int)]) ∧ Ext w w' := by
  have e0 : ((y : Int) == 0) = false := beq_eq_false_iff_ne.2 (by omega)
  have e1 : ((hi : Int) == 0) = false := beq_eq_false_iff_ne.2 (by omega)
  obtain ⟨s, Y, H, l1, u, L, hs, S⟩ := sh_mk h1 h2 y2 l2
  have hq : (hi * 18446744073709551616 + lo) / y < 18446744073709551616 := by
    rw [Nat.div_lt_iff_lt_mul (by omega), Nat.mul_comm]; omega
  obtain ⟨n1, hn1⟩ : ∃ n1, n1 = Y / 4294967296 := ⟨_, rfl⟩
  obtain ⟨n0, hn0⟩ : ∃ n0, n0 = Y % 4294967296 := ⟨_, rfl⟩
  obtain ⟨c1, hc1⟩ : ∃ c1, c1 = L / 4294967296 := ⟨_, rfl⟩
  obtain ⟨c0, hc0⟩ : ∃ c0, c0 = L % 4294967296 := ⟨_, rfl⟩
  have Llt : L < 18446744073709551616 := by rw [S.fL]; exact Nat.mod_lt _ (by omega)
  have y63 := S.y1
  have y64 := S.y2
  have ul := S.ult
  have D1 := Lib.hid (show Dig u c1 Y n1 n0 from ⟨by omega, by omega, by omega, by omega, by omega, by omega⟩)
  obtain ⟨q1, hq1⟩ : ∃ q1, q1 = (u * 4294967296 + c1) / Y := ⟨_, rfl⟩
  obtain ⟨R1, hR1⟩ : ∃ R1, R1 = (u * 4294967296 + c1) % Y := ⟨_, rfl⟩
  have R1lt : R1 < Y := by rw [hR1]; exact Nat.mod_lt _ (by omega)
  have D2 := Lib.hid (show Dig R1 c0 Y n1 n0 from ⟨by omega, by omega, by omega, by omega, by omega, by omega⟩)
  obtain ⟨q0, hq0⟩ : ∃ q0, q0 = (R1 * 4294967296 + c0) / Y := ⟨_, rfl⟩
  obtain ⟨R0, hR0⟩ : ∃ R0, R0 = (R1 * 4294967296 + c0) % Y := ⟨_, rfl⟩
  have R0lt : R0 < Y := by rw [hR0]; exact Nat.mod_lt _ (by omega)
  obtain ⟨t1, t2⟩ := two (U := (hi * 18446744073709551616 + lo) * 2 ^ s) (Y := Y) (u := u) (c0 := c0) (c1 := c1) (by omega) (by rw [S.all]; omega)
  obtain ⟨v1, v2⟩ := scale (N := hi * 18446744073709551616 + lo) (y := y) (T := 2 ^ s) (Nat.pow_pos (by omega))
  rw [← S.fy] at v1 v2
  rw [t1, ← hR1, ← hq1, ← hq0] at v1
  rw [t2, ← hR1, ← hR0] at v2
  have m1 := Nat.div_add_mod (u * 4294967296 + c1) Y
  rw [← hq1, ← hR1, Nat.mul_comm] at m1
  have m0 := Nat.div_add_mod (R1 * 4294967296 + c0) Y
  rw [← hq0, ← hR0, Nat.mul_comm] at m0
  have p1 : ((q1 * Y : Nat) : Int) = (q1 : Int) * (Y : Int) := Int.natCast_mul q1 Y
  have p0 : ((q0 * Y : Nat) : Int) = (q0 : Int) * (Y : Int) := Int.natCast_mul q0 Y
  obtain ⟨qz, hqz⟩ : ∃ z, z = q1 * 4294967296 + q0 := ⟨_, rfl⟩
  obtain ⟨rz, hrz⟩ : ∃ z, z = R0 / 2 ^ s := ⟨_, rfl⟩
  rw [← hqz] at v1
  rw [← hrz] at v2
  have HQ := Lib.hid (show (((hi * 18446744073709551616 + lo) / y : Nat) : Int) = (qz : Int) by rw [v1])
  have HR := Lib.hid (show (((hi * 18446744073709551616 + lo) % y : Nat) : Int) = (rz : Int) by rw [v2])
  -- what the walk meets, as natural numbers
  have f1 : IntKind.u64.wrap ((y : Int) * 2 ^ s) = (Y : Int) := by
    rw [show (y : Int) * 2 ^ s = ((y * 2 ^ s : Nat) : Int) by rw [Int.natCast_mul, Int.natCast_pow]; rfl, ← S.fy]; exact wr S.y2
  have f2 : (Y : Int) / 4294967296 = (n1 : Int) := by omega
  have f3 : bits .and .u64 (Y : Int) 4294967295 = (n0 : Int) := by rw [Mul64.maskN Y S.y2, hn0]
  have f4 : IntKind.u64.wrap ((hi : Int) * 2 ^ s) = (H : Int) := by
    rw [show (hi : Int) * 2 ^ s = ((hi * 2 ^ s : Nat) : Int) by rw [Int.natCast_mul, Int.natCast_pow]; rfl, ← S.fh]; exact wr S.h2
  have f5 : (lo : Int) / 2 ^ (64 - s) = (l1 : Int) := by
    rw [show (lo : Int) / 2 ^ (64 - s) = ((lo / 2 ^ (64 - s) : Nat) : Int) by rw [Int.natCast_ediv, Int.natCast_pow]; rfl, ← S.fl]
  have f6 : bits .or .u64 (H : Int) (l1 : Int) = (u : Int) := by
    rw [bits_or_u64_nat H l1 S.h2 (by rw [S.fl]; exact Nat.lt_of_le_of_lt (Nat.div_le_self _ _) l2), or_add S.fh S.l1lt, S.fu]
  have f7 : IntKind.u64.wrap ((lo : Int) * 2 ^ s) = (L : Int) := by
    rw [show (lo : Int) * 2 ^ s = ((lo * 2 ^ s : Nat) : Int) by rw [Int.natCast_mul, Int.natCast_pow]; rfl, IntKind.wrap_u64, S.fL]; omega
  have f8 : (L : Int) / 4294967296 = (c1 : Int) := by omega
  have f9 : bits .and .u64 (L : Int) 4294967295 = (c0 : Int) := by rw [Mul64.maskN L Llt, hc0]
  have qa : u / n1 ≤ u := Nat.div_le_self _ _
  obtain ⟨ka, hka⟩ : ∃ k, k = u / n1 := ⟨_, rfl⟩
  obtain ⟨ra, hra⟩ : ∃ r, r = u % n1 := ⟨_, rfl⟩
  have ma := Nat.div_add_mod u n1
  rw [Nat.mul_comm, ← hka, ← hra] at ma
  rw [← hka] at qa
  have pa : ((ka * n1 : Nat) : Int) = (ka : Int) * (n1 : Int) := Int.natCast_mul _ _
  obtain ⟨zka, hzka⟩ : ∃ z, z = ka * n1 := ⟨_, rfl⟩
  rw [← hzka] at pa ma
  have f10 : IntKind.u64.wrap ((u : Int) / (n1 : Int)) = (ka : Int) := by
    rw [← Int.natCast_ediv, ← hka]; exact wr (by omega)
  have f11 : IntKind.u64.wrap ((ka : Int) * (n1 : Int)) = (zka : Int) := by rw [← pa]; exact wr (by omega)
  have f12 : IntKind.u64.wrap ((u : Int) - (zka : Int)) = (ra : Int) := by rw [IntKind.wrap_u64]; omega
  have Ska := Lib.hid (show Inv u c1 Y n1 ka ra by rw [hka, hra]; exact DivM.start D1.out)
  clear hka hra hzka
  have g1 : IntKind.u64.wrap (IntKind.u64.wrap (IntKind.u64.wrap ((u : Int) * 4294967296) + (c1 : Int)) - IntKind.u64.wrap ((q1 : Int) * (Y : Int))) = (R1 : Int) := by
    rw [← p1]; simp only [IntKind.wrap_u64]; omega
  have qb : R1 / n1 ≤ R1 := Nat.div_le_self _ _
  obtain ⟨kb, hkb⟩ : ∃ k, k = R1 / n1 := ⟨_, rfl⟩
  obtain ⟨rb, hrb⟩ : ∃ r, r = R1 % n1 := ⟨_, rfl⟩
  have mb := Nat.div_add_mod R1 n1
  rw [Nat.mul_comm, ← hkb, ← hrb] at mb
  rw [← hkb] at qb
  have pb : ((kb * n1 : Nat) : Int) = (kb : Int) * (n1 : Int) := Int.natCast_mul _ _
  obtain ⟨zkb, hzkb⟩ : ∃ z, z = kb * n1 := ⟨_, rfl⟩
  rw [← hzkb] at pb mb
  have f13 : IntKind.u64.wrap ((R1 : Int) / (n1 : Int)) = (kb : Int) := by
    rw [← Int.natCast_ediv, ← hkb]; exact wr (by omega)
  have f14 : IntKind.u64.wrap ((kb : Int) * (n1 : Int)) = (zkb : Int) := by rw [← pb]; exact wr (by omega)
  have f15 : IntKind.u64.wrap ((R1 : Int) - (zkb : Int)) = (rb : Int) := by rw [IntKind.wrap_u64]; omega
  have Skb := Lib.hid (show Inv R1 c0 Y n1 kb rb by rw [hkb, hrb]; exact DivM.start D2.out)
  clear hkb hrb hzkb
  have g2 : IntKind.u64.wrap (IntKind.u64.wrap (IntKind.u64.wrap ((R1 : Int) * 4294967296) + (c0 : Int)) - IntKind.u64.wrap ((q0 : Int) * (Y : Int))) = (R0 : Int) := by
    rw [← p0]; simp only [IntKind.wrap_u64]; omega
  have g3 : IntKind.u64.wrap (IntKind.u64.wrap ((q1 : Int) * 4294967296) + (q0 : Int)) = (qz : Int) := by
    rw [← v1] at hq; simp only [IntKind.wrap_u64]; omega
  have g4 : (R0 : Int) / 2 ^ s = (rz : Int) := by rw [hrz, Int.natCast_ediv, Int.natCast_pow]; rfl
  have n1z : ((n1 : Int) == 0) = false := beq_eq_false_iff_ne.2 (by omega)
  have R0m : R0 < 18446744073709551616 := by omega
  have R1m : R1 < 18446744073709551616 := by omega
  have n1p : ¬ n1 = 0 := by have := D1.out.lo; omega
  have n1q : ¬ (n1 : Int) = 0 := by omega
  have s1 := S.s1
  have s2 := S.s2
  have X1 := Lib.hid hq1
  have X0 := Lib.hid hq0
  clear hn1 hn0 hc1 hc0 hq1 hR1 hq0 hR0 hqz hrz t1 t2 v1 v2 m1 m0 p1 p0 hq S qa ma pa qb mb pb ul Llt R1lt R0lt y63
  go_enter Tryz.func216, Tryz.ntmps216
  go_wp2_with fail
  refine (Tryz.bits_LeadingZeros64 _ _ (by omega) (by omega)).mono ?_
  rintro e w1 ⟨rfl, rfl⟩
  rw [Int.toNat_natCast, ← hs]
  clear hs
  go_upto_block 0 with fail
  go_cut [15] (fun s wx => s = .int .u64 (q1 : Int) ∧ Ext w1 wx)
  case first =>
    go_wp2_with fail
    go_loop [15, 16] (fun s t => RelD u c1 Y n1 s t) (fun s t => (intOf s).toNat)
    case atStart => exact ⟨ka, ra, Ska.out, rfl, rfl⟩
    case round =>
      obtain ⟨k, r, I0, rfl, rfl⟩ := hrel
      have I := Lib.hid I0
      obtain ⟨_, k2, _, r2⟩ := I0
      have hn1 := D1.out.hi
      have hn1' := D1.out.lo
      have hn0 := D1.out.n0
      have hc := D1.out.c
      have a1 : IntKind.u64.wrap (4294967296 * (r : Int)) = 4294967296 * (r : Int) := by rw [IntKind.wrap_u64]; omega
      have a2 : IntKind.u64.wrap (4294967296 * (r : Int) + (c1 : Int)) = 4294967296 * (r : Int) + (c1 : Int) := by rw [IntKind.wrap_u64]; omega
      obtain ⟨rp, hrp⟩ : ∃ rp, rp = r + n1 := ⟨_, rfl⟩
      have a3 : IntKind.u64.wrap ((r : Int) + (n1 : Int)) = (rp : Int) := by rw [IntKind.wrap_u64]; omega
      have step : (4294967296 ≤ k ∨ 4294967296 * r + c1 < k * n0) → 1 ≤ k := fun h => (DivM.more D1.out I.out h).1
      have brk : (4294967296 ≤ k ∨ 4294967296 * r + c1 < k * n0) → 4294967296 ≤ r + n1 → k - 1 = q1 := fun h g => (DivM.break_ D1.out I.out h g).trans X1.out.symm
      by_cases g1 : 4294967296 ≤ k
      · have hm : 4294967296 ≤ k ∨ 4294967296 * r + c1 < k * n0 := .inl g1
        have t1 : (4294967296 : Int) ≤ (k : Int) := by omega
        by_cases g2 : 4294967296 ≤ r + n1
        · have HE := brk hm g2
          have a4 : IntKind.u64.wrap ((k : Int) - 1) = (q1 : Int) := by rw [IntKind.wrap_u64]; omega
          have t2 : (4294967296 : Int) ≤ (rp : Int) := by omega
          clear step brk hm HE hrp g2
          go_wp2_with fail
          go_meet
          exact ⟨rfl, (by repeat (first | exact Ext.refl _ | assumption | apply Ext.alloc | apply Ext.drew | (refine Ext.trans ?_ (by assumption)) | (refine Ext.setNew ?_ (by simp <;> omega) _)))⟩
        · have HI := Lib.hid (DivM.next D1.out I.out hm (by omega))
          obtain ⟨kp, hkp⟩ : ∃ kp, kp = k - 1 := ⟨_, rfl⟩
          have a4 : IntKind.u64.wrap ((k : Int) - 1) = (kp : Int) := by rw [IntKind.wrap_u64]; omega
          replace HI := Lib.hid (show Inv u c1 Y n1 kp rp by rw [hkp, hrp]; exact HI.out)
          have kl : kp < k := by omega
          have t2 : ¬ (4294967296 : Int) ≤ (rp : Int) := by omega
          clear step brk hm hrp hkp g2
          go_wp2
          go_round
          case rel => exact ⟨kp, rp, HI.out, rfl, rfl⟩
          case measure => simp [intOf]; omega
      · have hkn := kn_bd (show k < 4294967296 by omega) hn0
        have e5 : ((k * n0 : Nat) : Int) = (k : Int) * (n0 : Int) := Int.natCast_mul k n0
        have a5 : IntKind.u64.wrap ((k : Int) * (n0 : Int)) = (k : Int) * (n0 : Int) := by rw [← e5]; exact wr hkn
        have t1 : ¬ (4294967296 : Int) ≤ (k : Int) := by omega
        by_cases g3 : 4294967296 * r + c1 < k * n0
        · have hm : 4294967296 ≤ k ∨ 4294967296 * r + c1 < k * n0 := .inr g3
          have k1 := step hm
          have t3 : 4294967296 * (r : Int) + (c1 : Int) < (k : Int) * (n0 : Int) := by rw [← e5]; omega
          by_cases g2 : 4294967296 ≤ r + n1
          · have HE := brk hm g2
            have a4 : IntKind.u64.wrap ((k : Int) - 1) = (q1 : Int) := by rw [IntKind.wrap_u64]; omega
            have t2 : (4294967296 : Int) ≤ (rp : Int) := by omega
            clear step brk hm HE e5 hrp g2
            go_wp2_with fail
            go_meet
            exact ⟨rfl, (by repeat (first | exact Ext.refl _ | assumption | apply Ext.alloc | apply Ext.drew | (refine Ext.trans ?_ (by assumption)) | (refine Ext.setNew ?_ (by simp <;> omega) _)))⟩
          · have HI := Lib.hid (DivM.next D1.out I.out hm (by omega))
            obtain ⟨kp, hkp⟩ : ∃ kp, kp = k - 1 := ⟨_, rfl⟩
            have a4 : IntKind.u64.wrap ((k : Int) - 1) = (kp : Int) := by rw [IntKind.wrap_u64]; omega
            replace HI := Lib.hid (show Inv u c1 Y n1 kp rp by rw [hkp, hrp]; exact HI.out)
            have kl : kp < k := by omega
            have t2 : ¬ (4294967296 : Int) ≤ (rp : Int) := by omega
            clear step brk hm e5 hrp hkp g2
            go_wp2
            go_round
            case rel => exact ⟨kp, rp, HI.out, rfl, rfl⟩
            case measure => simp [intOf]; omega
        · have HE : k = q1 := (DivM.stop D1.out I.out (by omega)).trans X1.out.symm
          have t3 : ¬ 4294967296 * (r : Int) + (c1 : Int) < (k : Int) * (n0 : Int) := by rw [← e5]; omega
          clear step brk e5 I hrp
          subst HE
          go_wp2_with fail
          go_meet
          exact ⟨rfl, (by repeat (first | exact Ext.refl _ | assumption | apply Ext.alloc | apply Ext.drew | (refine Ext.trans ?_ (by assumption)) | (refine Ext.setNew ?_ (by simp <;> omega) _)))⟩
  case rest =>
    obtain ⟨rfl, hX⟩ := hcut
    go_wp2_with fail
    go_loop [18, 16] (fun s t => RelD R1 c0 Y n1 s t) (fun s t => (intOf s).toNat)
    case atStart => exact ⟨kb, rb, Skb.out, rfl, rfl⟩
    case round =>
      obtain ⟨k, r, I0, rfl, rfl⟩ := hrel
      have I := Lib.hid I0
      obtain ⟨_, k2, _, r2⟩ := I0
      have hn1 := D2.out.hi
      have hn1' := D2.out.lo
      have hn0 := D2.out.n0
      have hc := D2.out.c
      have a1 : IntKind.u64.wrap (4294967296 * (r : Int)) = 4294967296 * (r : Int) := by rw [IntKind.wrap_u64]; omega
      have a2 : IntKind.u64.wrap (4294967296 * (r : Int) + (c0 : Int)) = 4294967296 * (r : Int) + (c0 : Int) := by rw [IntKind.wrap_u64]; omega
      obtain ⟨rp, hrp⟩ : ∃ rp, rp = r + n1 := ⟨_, rfl⟩
      have a3 : IntKind.u64.wrap ((r : Int) + (n1 : Int)) = (rp : Int) := by rw [IntKind.wrap_u64]; omega
      have step : (4294967296 ≤ k ∨ 4294967296 * r + c0 < k * n0) → 1 ≤ k := fun h => (DivM.more D2.out I.out h).1
      have brk : (4294967296 ≤ k ∨ 4294967296 * r + c0 < k * n0) → 4294967296 ≤ r + n1 → k - 1 = q0 := fun h g => (DivM.break_ D2.out I.out h g).trans X0.out.symm
      by_cases g1 : 4294967296 ≤ k
      · have hm : 4294967296 ≤ k ∨ 4294967296 * r + c0 < k * n0 := .inl g1
        have t1 : (4294967296 : Int) ≤ (k : Int) := by omega
        by_cases g2 : 4294967296 ≤ r + n1
        · have HE := brk hm g2
          have a4 : IntKind.u64.wrap ((k : Int) - 1) = (q0 : Int) := by rw [IntKind.wrap_u64]; omega
          have t2 : (4294967296 : Int) ≤ (rp : Int) := by omega
          clear step brk hm HE hrp g2
          go_wp2
          go_ret2
          exact ⟨ret_int2 HQ.out HR.out, (by repeat (first | exact Ext.refl _ | assumption | apply Ext.alloc | apply Ext.drew | (refine Ext.trans ?_ (by assumption)) | (refine Ext.setNew ?_ (by simp <;> omega) _)))⟩
        · have HI := Lib.hid (DivM.next D2.out I.out hm (by omega))
          obtain ⟨kp, hkp⟩ : ∃ kp, kp = k - 1 := ⟨_, rfl⟩
          have a4 : IntKind.u64.wrap ((k : Int) - 1) = (kp : Int) := by rw [IntKind.wrap_u64]; omega
          replace HI := Lib.hid (show Inv R1 c0 Y n1 kp rp by rw [hkp, hrp]; exact HI.out)
          have kl : kp < k := by omega
          have t2 : ¬ (4294967296 : Int) ≤ (rp : Int) := by omega
          clear step brk hm hrp hkp g2
          go_wp2
          go_round
          case rel => exact ⟨kp, rp, HI.out, rfl, rfl⟩
          case measure => simp [intOf]; omega
      · have hkn := kn_bd (show k < 4294967296 by omega) hn0
        have e5 : ((k * n0 : Nat) : Int) = (k : Int) * (n0 : Int) := Int.natCast_mul k n0
        have a5 : IntKind.u64.wrap ((k : Int) * (n0 : Int)) = (k : Int) * (n0 : Int) := by rw [← e5]; exact wr hkn
        have t1 : ¬ (4294967296 : Int) ≤ (k : Int) := by omega
        by_cases g3 : 4294967296 * r + c0 < k * n0
        · have hm : 4294967296 ≤ k ∨ 4294967296 * r + c0 < k * n0 := .inr g3
          have k1 := step hm
          have t3 : 4294967296 * (r : Int) + (c0 : Int) < (k : Int) * (n0 : Int) := by rw [← e5]; omega
          by_cases g2 : 4294967296 ≤ r + n1
          · have HE := brk hm g2
            have a4 : IntKind.u64.wrap ((k : Int) - 1) = (q0 : Int) := by rw [IntKind.wrap_u64]; omega
            have t2 : (4294967296 : Int) ≤ (rp : Int) := by omega
            clear step brk hm HE e5 hrp g2
            go_wp2
            go_ret2
            exact ⟨ret_int2 HQ.out HR.out, (by repeat (first | exact Ext.refl _ | assumption | apply Ext.alloc | apply Ext.drew | (refine Ext.trans ?_ (by assumption)) | (refine Ext.setNew ?_ (by simp <;> omega) _)))⟩
          · have HI := Lib.hid (DivM.next D2.out I.out hm (by omega))
            obtain ⟨kp, hkp⟩ : ∃ kp, kp = k - 1 := ⟨_, rfl⟩
            have a4 : IntKind.u64.wrap ((k : Int) - 1) = (kp : Int) := by rw [IntKind.wrap_u64]; omega
            replace HI := Lib.hid (show Inv R1 c0 Y n1 kp rp by rw [hkp, hrp]; exact HI.out)
            have kl : kp < k := by omega
            have t2 : ¬ (4294967296 : Int) ≤ (rp : Int) := by omega
            clear step brk hm e5 hrp hkp g2
            go_wp2
            go_round
            case rel => exact ⟨kp, rp, HI.out, rfl, rfl⟩
            case measure => simp [intOf]; omega
        · have HE : k = q0 := (DivM.stop D2.out I.out (by omega)).trans X0.out.symm
          have t3 : ¬ 4294967296 * (r : Int) + (c0 : Int) < (k : Int) * (n0 : Int) := by rw [← e5]; omega
          clear step brk e5 I hrp
          subst HE
          go_wp2
          go_ret2
          exact ⟨ret_int2 HQ.out HR.out, (by repeat (first | exact Ext.refl _ | assumption | apply Ext.alloc | apply Ext.drew | (refine Ext.trans ?_ (by assumption)) | (refine Ext.setNew ?_ (by simp <;> omega) _)))⟩
end Go.Proofs.YtknelhceaoblhaaGreat.Div
