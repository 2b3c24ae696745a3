/- Parts of this claim in one text: DivM, Div, Part0, At, Pos, PosMath. -/
import Derived.KernelRfl
import Derived.Test.YtlheppblioglpaaGreatCmp
import Derived.Lib.ItoaNum
import Derived.Laws.Bits64b
import Derived.Deep.LoopGhost
import Derived.Deep.DeepCutAuto
import Derived.Deep.CutBlock
import Derived.Deep.QuietTactic
import Derived.BigQuiet
import Derived.Test.YtlheppblioglpaaGreatOrd
import Derived.Test.YtlheppblioglpaaGreatRes
import Derived.Test.YtlheppblioglpaaGreatRat
import Derived.Test.YtlheppblioglpaaGreatGcd
import Derived.Test.YtlheppblioglpaaGreatSpd
import Derived.Test.YtlheppblioglpaaGreatHead

/- Plain mathematics: one step of long division by a divisor of two digits (Knuth's algorithm D), as math/bits.Div64 does it. No program is named here. -/
namespace Go.Proofs.YtlheppblioglpaaGreat.DivM

/-- What one digit's search keeps: k is at least the digit q of (u * 2^32 + c) / Y, and k * n1 + r = u. -/
def Inv (u c Y n1 k r : Nat) : Prop := (u * 4294967296 + c) / Y ≤ k ∧ k ≤ 4294967297 ∧ k * n1 + r = u ∧ r < 4294967296

structure Dig (u c Y n1 n0 : Nat) : Prop where
  y : Y = n1 * 4294967296 + n0
  lo : 2147483648 ≤ n1
  hi : n1 < 4294967296
  n0 : n0 < 4294967296
  u : u < Y
  c : c < 4294967296

theorem mulY {Y n1 n0 k r u : Nat} (hY : Y = n1 * 4294967296 + n0) (h : k * n1 + r = u) : k * Y + r * 4294967296 = u * 4294967296 + k * n0 := by
  subst hY h
  rw [Nat.mul_add, ← Nat.mul_assoc, Nat.add_mul]
  omega

theorem Dig.pos {u c Y n1 n0 : Nat} (D : Dig u c Y n1 n0) : 0 < Y := by have := D.u; omega
theorem le_q {u c Y n1 n0 k r : Nat} (D : Dig u c Y n1 n0) (h : k * n1 + r = u) (hk : k * n0 ≤ 4294967296 * r + c) : k ≤ (u * 4294967296 + c) / Y := by
  rw [Nat.le_div_iff_mul_le D.pos]
  have := mulY D.y h
  omega
theorem q_lt {u c Y n1 n0 k r : Nat} (D : Dig u c Y n1 n0) (h : k * n1 + r = u) (hk : 4294967296 * r + c < k * n0) : (u * 4294967296 + c) / Y < k := by
  rw [Nat.div_lt_iff_lt_mul D.pos]
  have := mulY D.y h
  omega
theorem q_small {u c Y n1 n0 : Nat} (D : Dig u c Y n1 n0) : (u * 4294967296 + c) / Y < 4294967296 := by
  rw [Nat.div_lt_iff_lt_mul D.pos]
  have := D.u; have := D.c
  rw [Nat.mul_comm 4294967296 Y]
  omega

theorem start {u c Y n1 n0 : Nat} (D : Dig u c Y n1 n0) : Inv u c Y n1 (u / n1) (u % n1) := by
  have hp : 0 < n1 := by have := D.lo; omega
  have hq := Nat.div_mul_le_self (u * 4294967296 + c) Y
  have e := Nat.div_add_mod u n1
  refine ⟨?_, ?_, ?_, ?_⟩
  · rw [Nat.le_div_iff_mul_le hp]
    generalize (u * 4294967296 + c) / Y = q at *
    rw [D.y, Nat.mul_add, ← Nat.mul_assoc] at hq
    have := D.c
    omega
  · have : u / n1 < 4294967298 := by
      rw [Nat.div_lt_iff_lt_mul hp]
      have h1 := D.u; have h2 := D.y; have h3 := D.n0; have h4 := D.lo
      rw [Nat.mul_comm]
      omega
    omega
  · rw [Nat.mul_comm]; omega
  · have := Nat.mod_lt u hp; have := D.hi; omega

theorem stop {u c Y n1 n0 k r : Nat} (D : Dig u c Y n1 n0) (I : Inv u c Y n1 k r) (hk : k * n0 ≤ 4294967296 * r + c) : k = (u * 4294967296 + c) / Y :=
  Nat.le_antisymm (le_q D I.2.2.1 hk) I.1

theorem more {u c Y n1 n0 k r : Nat} (D : Dig u c Y n1 n0) (I : Inv u c Y n1 k r) (hk : 4294967296 ≤ k ∨ 4294967296 * r + c < k * n0) :
    1 ≤ k ∧ (u * 4294967296 + c) / Y ≤ k - 1 ∧ (k - 1) * n1 + (r + n1) = u := by
  have h : (u * 4294967296 + c) / Y < k := by
    rcases hk with h | h
    · exact Nat.lt_of_lt_of_le (q_small D) h
    · exact q_lt D I.2.2.1 h
  have hk1 : 1 ≤ k := Nat.lt_of_le_of_lt (Nat.zero_le _) h
  refine ⟨hk1, Nat.le_sub_one_of_lt h, ?_⟩
  have h2 := I.2.2.1
  obtain ⟨m, rfl⟩ : ∃ m, k = m + 1 := ⟨k - 1, by omega⟩
  rw [Nat.add_mul] at h2
  rw [Nat.add_sub_cancel]
  omega
theorem next {u c Y n1 n0 k r : Nat} (D : Dig u c Y n1 n0) (I : Inv u c Y n1 k r) (hk : 4294967296 ≤ k ∨ 4294967296 * r + c < k * n0) (hr : r + n1 < 4294967296) : Inv u c Y n1 (k - 1) (r + n1) := by
  obtain ⟨h1, h2, h3⟩ := more D I hk
  exact ⟨h2, by have := I.2.1; omega, h3, hr⟩
theorem break_ {u c Y n1 n0 k r : Nat} (D : Dig u c Y n1 n0) (I : Inv u c Y n1 k r) (hk : 4294967296 ≤ k ∨ 4294967296 * r + c < k * n0) (hr : 4294967296 ≤ r + n1) : k - 1 = (u * 4294967296 + c) / Y := by
  obtain ⟨h1, h2, h3⟩ := more D I hk
  refine Nat.le_antisymm (le_q D h3 ?_) h2
  have hk := I.2.1
  have h4 : (k - 1) * n0 ≤ 4294967296 * 4294967295 := Nat.mul_le_mul (by omega) (by have := D.n0; omega)
  have h5 : 4294967296 * 4294967296 ≤ 4294967296 * (r + n1) := Nat.mul_le_mul_left _ hr
  omega

/-- Two digits make the quotient. -/
theorem two {U Y u c0 c1 : Nat} (hY : 0 < Y) (hU : U = (u * 4294967296 + c1) * 4294967296 + c0) :
    U / Y = (u * 4294967296 + c1) / Y * 4294967296 + ((u * 4294967296 + c1) % Y * 4294967296 + c0) / Y ∧ U % Y = ((u * 4294967296 + c1) % Y * 4294967296 + c0) % Y := by
  have e := Nat.div_add_mod (u * 4294967296 + c1) Y
  have hU2 : U = Y * ((u * 4294967296 + c1) / Y * 4294967296) + ((u * 4294967296 + c1) % Y * 4294967296 + c0) := by
    rw [hU]
    generalize (u * 4294967296 + c1) / Y = q at *
    generalize (u * 4294967296 + c1) % Y = r at *
    rw [← e, Nat.add_mul, Nat.mul_assoc]
    omega
  rw [hU2]
  constructor
  · rw [Nat.mul_add_div hY]
  · rw [Nat.mul_add_mod]

/-- Scaling both leaves the quotient, and scales the remainder. -/
theorem scale {N y T : Nat} (hT : 0 < T) : N * T / (y * T) = N / y ∧ N * T % (y * T) / T = N % y := by
  constructor
  · exact Nat.mul_div_mul_right N y hT
  · rw [Nat.mul_mod_mul_right, Nat.mul_div_cancel _ hT]

end Go.Proofs.YtlheppblioglpaaGreat.DivM

/- The contract of math/bits.Div64 for a divisor of at most 10^14: quotient and remainder of the 128-bit dividend. -/
namespace Go.Proofs.YtlheppblioglpaaGreat.Div
open Go.ChangeShapes Go.WideShapes Go.ChangeAt Go.RowKit
open Go.Proofs.YtlheppblioglpaaGreat.Num Go.Proofs.YtlheppblioglpaaGreat.Kit Go.Proofs.YtlheppblioglpaaGreat.Pts Go.Proofs.YtlheppblioglpaaGreat.DivM
set_option linter.unusedVariables false
set_option linter.unusedSimpArgs false

theorem div64_zero (lo y : Nat) (w : World) (y1 : 1 ≤ y) (y2 : y ≤ 100000000000000) (l2 : lo < 18446744073709551616) :
    Calls Tryz.prog 128 #[.int .u64 0, .int .u64 lo, .int .u64 y] w fun e w' => e = .returned (.tuple #[.int .u64 ((lo / y : Nat) : Int), .int .u64 ((lo % y : Nat) : Int)]) ∧ Ext w w' := by
  have b1 : lo / y ≤ lo := Nat.div_le_self _ _
  have b2 : lo % y < y := Nat.mod_lt _ (by omega)
  have e0 : ((y : Int) == 0) = false := beq_eq_false_iff_ne.2 (by omega)
  have p1 : (1 : Int) ≤ (y : Int) := by omega
  have H1 := Lib.hid (show ((lo / y : Nat) : Int) = (lo : Int) / (y : Int) from Int.natCast_ediv lo y)
  have H2 := Lib.hid (show ((lo % y : Nat) : Int) = (lo : Int) % (y : Int) from Int.natCast_emod lo y)
  have q1 : 0 ≤ (lo : Int) / (y : Int) ∧ (lo : Int) / (y : Int) ≤ lo := ⟨Int.ediv_nonneg (by omega) (by omega), by rw [← H1.out]; exact Int.ofNat_le.2 b1⟩
  have q2 : 0 ≤ (lo : Int) % (y : Int) ∧ (lo : Int) % (y : Int) < y := ⟨Int.emod_nonneg _ (by omega), Int.emod_lt_of_pos _ (by omega)⟩
  obtain ⟨q11, q12⟩ := q1
  obtain ⟨q21, q22⟩ := q2
  clear b1 b2
  go_enter Tryz.func128, Tryz.ntmps128
  go_wp2_with fail
  go_quiet (fail)
  go_wp2
  go_ret2
  exact ⟨ret_int2 H1.out H2.out, (Ext.refl _).drewN _⟩

/-- The numbers of a long division, as Div64 has them behind its shifts. -/
structure Sh (hi lo y s Y H l1 u L : Nat) : Prop where
  s1 : 1 ≤ s
  s2 : s ≤ 63
  fy : Y = y * 2 ^ s
  y1 : 9223372036854775808 ≤ Y
  y2 : Y < 18446744073709551616
  fh : H = hi * 2 ^ s
  h2 : H < 18446744073709551616
  fl : l1 = lo / 2 ^ (64 - s)
  fu : u = H + l1
  l1lt : l1 < 2 ^ s
  fL : L = lo * 2 ^ s % 18446744073709551616
  ult : u < Y
  all : (hi * 18446744073709551616 + lo) * 2 ^ s = u * 18446744073709551616 + L

theorem sh_mk {hi lo y : Nat} (h1 : 1 ≤ hi) (h2 : hi < y) (y2 : y ≤ 100000000000000) (l2 : lo < 18446744073709551616) :
    ∃ s Y H l1 u L : Nat, (s : Int) = 64 - (Lib.bitLen y : Int) ∧ Sh hi lo y s Y H l1 u L := by
  obtain ⟨b1, b2, b3⟩ := Lib.bitLenAux_bounds 64 y (by omega) (by omega)
  have hb : Lib.bitLen y = Lib.bitLenAux 64 y := rfl
  rw [← hb] at b1 b2 b3
  generalize Lib.bitLen y = n at *
  have n2 : n ≤ 47 := by
    rcases Nat.lt_or_ge 47 n with h | h
    · have := Nat.pow_le_pow_right (show 0 < 2 by omega) (show 47 ≤ n - 1 by omega)
      have e : (2 : Nat) ^ 47 = 140737488355328 := by decide
      omega
    · exact h
  have eT : 2 ^ n * 2 ^ (64 - n) = (18446744073709551616 : Nat) := by rw [← Nat.pow_add, show n + (64 - n) = 64 by omega]
  have eT2 : 2 ^ (n - 1) * 2 ^ (64 - n) = (9223372036854775808 : Nat) := by rw [← Nat.pow_add, show n - 1 + (64 - n) = 63 by omega]
  have hT : 0 < 2 ^ (64 - n) := Nat.pow_pos (by omega)
  have eS : (64 - (64 - n)) = n := by omega
  have k1 : 2 ^ (n - 1) * 2 ^ (64 - n) ≤ y * 2 ^ (64 - n) := Nat.mul_le_mul_right _ b2
  have k2 : y * 2 ^ (64 - n) < 2 ^ n * 2 ^ (64 - n) := Nat.mul_lt_mul_of_pos_right b3 hT
  have k3 : hi * 2 ^ (64 - n) < y * 2 ^ (64 - n) := Nat.mul_lt_mul_of_pos_right h2 hT
  have k4 : lo / 2 ^ n < 2 ^ (64 - n) := by
    rw [Nat.div_lt_iff_lt_mul (Nat.pow_pos (by omega)), Nat.mul_comm, eT]; exact l2
  have k5 : lo * 2 ^ (64 - n) = lo / 2 ^ n * 18446744073709551616 + lo * 2 ^ (64 - n) % 18446744073709551616 := by
    have e1 : lo * 2 ^ (64 - n) / 18446744073709551616 = lo / 2 ^ n := by
      rw [← eT]; exact Nat.mul_div_mul_right lo (2 ^ n) hT
    have := Nat.div_add_mod (lo * 2 ^ (64 - n)) 18446744073709551616
    rw [e1] at this
    omega
  have k6 : hi * 2 ^ (64 - n) + 2 ^ (64 - n) ≤ y * 2 ^ (64 - n) := by
    have := Nat.mul_le_mul_right (2 ^ (64 - n)) (show hi + 1 ≤ y by omega)
    rw [Nat.add_mul, Nat.one_mul] at this
    exact this
  refine ⟨64 - n, y * 2 ^ (64 - n), hi * 2 ^ (64 - n), lo / 2 ^ n, hi * 2 ^ (64 - n) + lo / 2 ^ n, lo * 2 ^ (64 - n) % 18446744073709551616, by omega, ?_⟩
  refine ⟨by omega, by omega, rfl, by omega, by omega, rfl, by omega, by rw [eS], rfl, k4, rfl, by omega, ?_⟩
  rw [Nat.add_mul, Nat.mul_right_comm]
  omega

theorem or_add {H l s : Nat} {hi : Nat} (h : H = hi * 2 ^ s) (hl : l < 2 ^ s) : H ||| l = H + l := by
  subst h; rw [Nat.mul_comm]; exact (Nat.two_pow_add_eq_or_of_lt hl hi).symm

def RelD (u c Y n1 : Nat) (s t : Value) : Prop := ∃ k r : Nat, Inv u c Y n1 k r ∧ s = .int .u64 k ∧ t = .int .u64 r

theorem kn_bd {k n0 : Nat} (hk : k < 4294967296) (h0 : n0 < 4294967296) : k * n0 < 18446744073709551616 := by
  have := Nat.mul_le_mul (show k ≤ 4294967295 by omega) (show n0 ≤ 4294967295 by omega)
  omega
theorem wr {x : Nat} (h : x < 18446744073709551616) : IntKind.u64.wrap (x : Int) = (x : Int) := by rw [IntKind.wrap_u64]; omega

set_option maxRecDepth 100000 in
set_option maxHeartbeats 4000000 in
theorem div64_some (hi lo y : Nat) (w : World) (h1 : 1 ≤ hi) (h2 : hi < y) (y2 : y ≤ 100000000000000) (l2 : lo < 18446744073709551616) :
    Calls Tryz.prog 128 #[.int .u64 hi, .int .u64 lo, .int .u64 y] w fun e w' => e = .returned (.tuple #[.int .u64 (((hi * 18446744073709551616 + lo) / y : Nat) : Int), .int .u64 (((hi * 18446744073709551616 + lo) % y : Nat) : Int)]) ∧ Ext w w' := by
  have e0 : ((y : Int) == 0) = false := beq_eq_false_iff_ne.2 (by omega)
  have e1 : ((hi : Int) == 0) = false := beq_eq_false_iff_ne.2 (by omega)
  obtain ⟨s, Y, H, l1, u, L, hs, S⟩ := sh_mk h1 h2 y2 l2
  have hq : (hi * 18446744073709551616 + lo) / y < 18446744073709551616 := by
    rw [Nat.div_lt_iff_lt_mul (by omega), Nat.mul_comm]; omega
  obtain ⟨n1, hn1⟩ : ∃ n1, n1 = Y / 4294967296 := ⟨_, rfl⟩
  obtain ⟨n0, hn0⟩ : ∃ n0, n0 = Y % 4294967296 := ⟨_, rfl⟩
  obtain ⟨c1, hc1⟩ : ∃ c1, c1 = L / 4294967296 := ⟨_, rfl⟩
  obtain ⟨c0, hc0⟩ : ∃ c0, c0 = L % 4294967296 := ⟨_, rfl⟩
  have Llt : L < 18446744073709551616 := by rw [S.fL]; exact Nat.mod_lt _ (by omega)
  have y63 := S.y1
  have y64 := S.y2
  have ul := S.ult
  have D1 := Lib.hid (show Dig u c1 Y n1 n0 from ⟨by omega, by omega, by omega, by omega, by omega, by omega⟩)
  obtain ⟨q1, hq1⟩ : ∃ q1, q1 = (u * 4294967296 + c1) / Y := ⟨_, rfl⟩
  obtain ⟨R1, hR1⟩ : ∃ R1, R1 = (u * 4294967296 + c1) % Y := ⟨_, rfl⟩
  have R1lt : R1 < Y := by rw [hR1]; exact Nat.mod_lt _ (by omega)
  have D2 := Lib.hid (show Dig R1 c0 Y n1 n0 from ⟨by omega, by omega, by omega, by omega, by omega, by omega⟩)
  obtain ⟨q0, hq0⟩ : ∃ q0, q0 = (R1 * 4294967296 + c0) / Y := ⟨_, rfl⟩
  obtain ⟨R0, hR0⟩ : ∃ R0, R0 = (R1 * 4294967296 + c0) % Y := ⟨_, rfl⟩
  have R0lt : R0 < Y := by rw [hR0]; exact Nat.mod_lt _ (by omega)
  obtain ⟨t1, t2⟩ := two (U := (hi * 18446744073709551616 + lo) * 2 ^ s) (Y := Y) (u := u) (c0 := c0) (c1 := c1) (by omega) (by rw [S.all]; omega)
  obtain ⟨v1, v2⟩ := scale (N := hi * 18446744073709551616 + lo) (y := y) (T := 2 ^ s) (Nat.pow_pos (by omega))
  rw [← S.fy] at v1 v2
  rw [t1, ← hR1, ← hq1, ← hq0] at v1
  rw [t2, ← hR1, ← hR0] at v2
  have m1 := Nat.div_add_mod (u * 4294967296 + c1) Y
  rw [← hq1, ← hR1, Nat.mul_comm] at m1
  have m0 := Nat.div_add_mod (R1 * 4294967296 + c0) Y
  rw [← hq0, ← hR0, Nat.mul_comm] at m0
  have p1 : ((q1 * Y : Nat) : Int) = (q1 : Int) * (Y : Int) := Int.natCast_mul q1 Y
  have p0 : ((q0 * Y : Nat) : Int) = (q0 : Int) * (Y : Int) := Int.natCast_mul q0 Y
  obtain ⟨qz, hqz⟩ : ∃ z, z = q1 * 4294967296 + q0 := ⟨_, rfl⟩
  obtain ⟨rz, hrz⟩ : ∃ z, z = R0 / 2 ^ s := ⟨_, rfl⟩
  rw [← hqz] at v1
  rw [← hrz] at v2
  have HQ := Lib.hid (show (((hi * 18446744073709551616 + lo) / y : Nat) : Int) = (qz : Int) by rw [v1])
  have HR := Lib.hid (show (((hi * 18446744073709551616 + lo) % y : Nat) : Int) = (rz : Int) by rw [v2])
  -- what the walk meets, as natural numbers
  have f1 : IntKind.u64.wrap ((y : Int) * 2 ^ s) = (Y : Int) := by
    rw [show (y : Int) * 2 ^ s = ((y * 2 ^ s : Nat) : Int) by rw [Int.natCast_mul, Int.natCast_pow]; rfl, ← S.fy]; exact wr S.y2
  have f2 : (Y : Int) / 4294967296 = (n1 : Int) := by omega
  have f3 : bits .and .u64 (Y : Int) 4294967295 = (n0 : Int) := by rw [Mul64.maskN Y S.y2, hn0]
  have f4 : IntKind.u64.wrap ((hi : Int) * 2 ^ s) = (H : Int) := by
    rw [show (hi : Int) * 2 ^ s = ((hi * 2 ^ s : Nat) : Int) by rw [Int.natCast_mul, Int.natCast_pow]; rfl, ← S.fh]; exact wr S.h2
  have f5 : (lo : Int) / 2 ^ (64 - s) = (l1 : Int) := by
    rw [show (lo : Int) / 2 ^ (64 - s) = ((lo / 2 ^ (64 - s) : Nat) : Int) by rw [Int.natCast_ediv, Int.natCast_pow]; rfl, ← S.fl]
  have f6 : bits .or .u64 (H : Int) (l1 : Int) = (u : Int) := by
    rw [bits_or_u64_nat H l1 S.h2 (by rw [S.fl]; exact Nat.lt_of_le_of_lt (Nat.div_le_self _ _) l2), or_add S.fh S.l1lt, S.fu]
  have f7 : IntKind.u64.wrap ((lo : Int) * 2 ^ s) = (L : Int) := by
    rw [show (lo : Int) * 2 ^ s = ((lo * 2 ^ s : Nat) : Int) by rw [Int.natCast_mul, Int.natCast_pow]; rfl, IntKind.wrap_u64, S.fL]; omega
  have f8 : (L : Int) / 4294967296 = (c1 : Int) := by omega
  have f9 : bits .and .u64 (L : Int) 4294967295 = (c0 : Int) := by rw [Mul64.maskN L Llt, hc0]
  have qa : u / n1 ≤ u := Nat.div_le_self _ _
  obtain ⟨ka, hka⟩ : ∃ k, k = u / n1 := ⟨_, rfl⟩
  obtain ⟨ra, hra⟩ : ∃ r, r = u % n1 := ⟨_, rfl⟩
  have ma := Nat.div_add_mod u n1
  rw [Nat.mul_comm, ← hka, ← hra] at ma
  rw [← hka] at qa
  have pa : ((ka * n1 : Nat) : Int) = (ka : Int) * (n1 : Int) := Int.natCast_mul _ _
  obtain ⟨zka, hzka⟩ : ∃ z, z = ka * n1 := ⟨_, rfl⟩
  rw [← hzka] at pa ma
  have f10 : IntKind.u64.wrap ((u : Int) / (n1 : Int)) = (ka : Int) := by
    rw [← Int.natCast_ediv, ← hka]; exact wr (by omega)
  have f11 : IntKind.u64.wrap ((ka : Int) * (n1 : Int)) = (zka : Int) := by rw [← pa]; exact wr (by omega)
  have f12 : IntKind.u64.wrap ((u : Int) - (zka : Int)) = (ra : Int) := by rw [IntKind.wrap_u64]; omega
  have Ska := Lib.hid (show Inv u c1 Y n1 ka ra by rw [hka, hra]; exact DivM.start D1.out)
  clear hka hra hzka
  have g1 : IntKind.u64.wrap (IntKind.u64.wrap (IntKind.u64.wrap ((u : Int) * 4294967296) + (c1 : Int)) - IntKind.u64.wrap ((q1 : Int) * (Y : Int))) = (R1 : Int) := by
    rw [← p1]; simp only [IntKind.wrap_u64]; omega
  have qb : R1 / n1 ≤ R1 := Nat.div_le_self _ _
  obtain ⟨kb, hkb⟩ : ∃ k, k = R1 / n1 := ⟨_, rfl⟩
  obtain ⟨rb, hrb⟩ : ∃ r, r = R1 % n1 := ⟨_, rfl⟩
  have mb := Nat.div_add_mod R1 n1
  rw [Nat.mul_comm, ← hkb, ← hrb] at mb
  rw [← hkb] at qb
  have pb : ((kb * n1 : Nat) : Int) = (kb : Int) * (n1 : Int) := Int.natCast_mul _ _
  obtain ⟨zkb, hzkb⟩ : ∃ z, z = kb * n1 := ⟨_, rfl⟩
  rw [← hzkb] at pb mb
  have f13 : IntKind.u64.wrap ((R1 : Int) / (n1 : Int)) = (kb : Int) := by
    rw [← Int.natCast_ediv, ← hkb]; exact wr (by omega)
  have f14 : IntKind.u64.wrap ((kb : Int) * (n1 : Int)) = (zkb : Int) := by rw [← pb]; exact wr (by omega)
  have f15 : IntKind.u64.wrap ((R1 : Int) - (zkb : Int)) = (rb : Int) := by rw [IntKind.wrap_u64]; omega
  have Skb := Lib.hid (show Inv R1 c0 Y n1 kb rb by rw [hkb, hrb]; exact DivM.start D2.out)
  clear hkb hrb hzkb
  have g2 : IntKind.u64.wrap (IntKind.u64.wrap (IntKind.u64.wrap ((R1 : Int) * 4294967296) + (c0 : Int)) - IntKind.u64.wrap ((q0 : Int) * (Y : Int))) = (R0 : Int) := by
    rw [← p0]; simp only [IntKind.wrap_u64]; omega
  have g3 : IntKind.u64.wrap (IntKind.u64.wrap ((q1 : Int) * 4294967296) + (q0 : Int)) = (qz : Int) := by
    rw [← v1] at hq; simp only [IntKind.wrap_u64]; omega
  have g4 : (R0 : Int) / 2 ^ s = (rz : Int) := by rw [hrz, Int.natCast_ediv, Int.natCast_pow]; rfl
  have n1z : ((n1 : Int) == 0) = false := beq_eq_false_iff_ne.2 (by omega)
  have R0m : R0 < 18446744073709551616 := by omega
  have R1m : R1 < 18446744073709551616 := by omega
  have n1p : ¬ n1 = 0 := by have := D1.out.lo; omega
  have n1q : ¬ (n1 : Int) = 0 := by omega
  have s1 := S.s1
  have s2 := S.s2
  have X1 := Lib.hid hq1
  have X0 := Lib.hid hq0
  clear hn1 hn0 hc1 hc0 hq1 hR1 hq0 hR0 hqz hrz t1 t2 v1 v2 m1 m0 p1 p0 hq S qa ma pa qb mb pb ul Llt R1lt R0lt y63
  go_enter Tryz.func128, Tryz.ntmps128
  go_wp2_with fail
  refine (Tryz.bits_LeadingZeros64 _ _ (by omega) (by omega)).mono ?_
  rintro e w1 ⟨rfl, rfl⟩
  rw [Int.toNat_natCast, ← hs]
  clear hs
  go_upto_block 0 with fail
  go_cut [15] (fun s wx => s = .int .u64 (q1 : Int) ∧ Ext w1 wx)
  case first =>
    go_wp2_with fail
    go_loop [15, 16] (fun s t => RelD u c1 Y n1 s t) (fun s t => (intOf s).toNat)
    case atStart => exact ⟨ka, ra, Ska.out, rfl, rfl⟩
    case round =>
      obtain ⟨k, r, I0, rfl, rfl⟩ := hrel
      have I := Lib.hid I0
      obtain ⟨_, k2, _, r2⟩ := I0
      have hn1 := D1.out.hi
      have hn1' := D1.out.lo
      have hn0 := D1.out.n0
      have hc := D1.out.c
      have a1 : IntKind.u64.wrap (4294967296 * (r : Int)) = 4294967296 * (r : Int) := by rw [IntKind.wrap_u64]; omega
      have a2 : IntKind.u64.wrap (4294967296 * (r : Int) + (c1 : Int)) = 4294967296 * (r : Int) + (c1 : Int) := by rw [IntKind.wrap_u64]; omega
      obtain ⟨rp, hrp⟩ : ∃ rp, rp = r + n1 := ⟨_, rfl⟩
      have a3 : IntKind.u64.wrap ((r : Int) + (n1 : Int)) = (rp : Int) := by rw [IntKind.wrap_u64]; omega
      have step : (4294967296 ≤ k ∨ 4294967296 * r + c1 < k * n0) → 1 ≤ k := fun h => (DivM.more D1.out I.out h).1
      have brk : (4294967296 ≤ k ∨ 4294967296 * r + c1 < k * n0) → 4294967296 ≤ r + n1 → k - 1 = q1 := fun h g => (DivM.break_ D1.out I.out h g).trans X1.out.symm
      by_cases g1 : 4294967296 ≤ k
      · have hm : 4294967296 ≤ k ∨ 4294967296 * r + c1 < k * n0 := .inl g1
        have t1 : (4294967296 : Int) ≤ (k : Int) := by omega
        by_cases g2 : 4294967296 ≤ r + n1
        · have HE := brk hm g2
          have a4 : IntKind.u64.wrap ((k : Int) - 1) = (q1 : Int) := by rw [IntKind.wrap_u64]; omega
          have t2 : (4294967296 : Int) ≤ (rp : Int) := by omega
          clear step brk hm HE hrp g2
          go_wp2_with fail
          go_meet
          exact ⟨rfl, (by repeat (first | exact Ext.refl _ | assumption | apply Ext.alloc | apply Ext.drew | (refine Ext.trans ?_ (by assumption)) | (refine Ext.setNew ?_ (by simp <;> omega) _)))⟩
        · have HI := Lib.hid (DivM.next D1.out I.out hm (by omega))
          obtain ⟨kp, hkp⟩ : ∃ kp, kp = k - 1 := ⟨_, rfl⟩
          have a4 : IntKind.u64.wrap ((k : Int) - 1) = (kp : Int) := by rw [IntKind.wrap_u64]; omega
          replace HI := Lib.hid (show Inv u c1 Y n1 kp rp by rw [hkp, hrp]; exact HI.out)
          have kl : kp < k := by omega
          have t2 : ¬ (4294967296 : Int) ≤ (rp : Int) := by omega
          clear step brk hm hrp hkp g2
          go_wp2
          go_round
          case rel => exact ⟨kp, rp, HI.out, rfl, rfl⟩
          case measure => simp [intOf]; omega
      · have hkn := kn_bd (show k < 4294967296 by omega) hn0
        have e5 : ((k * n0 : Nat) : Int) = (k : Int) * (n0 : Int) := Int.natCast_mul k n0
        have a5 : IntKind.u64.wrap ((k : Int) * (n0 : Int)) = (k : Int) * (n0 : Int) := by rw [← e5]; exact wr hkn
        have t1 : ¬ (4294967296 : Int) ≤ (k : Int) := by omega
        by_cases g3 : 4294967296 * r + c1 < k * n0
        · have hm : 4294967296 ≤ k ∨ 4294967296 * r + c1 < k * n0 := .inr g3
          have k1 := step hm
          have t3 : 4294967296 * (r : Int) + (c1 : Int) < (k : Int) * (n0 : Int) := by rw [← e5]; omega
          by_cases g2 : 4294967296 ≤ r + n1
          · have HE := brk hm g2
            have a4 : IntKind.u64.wrap ((k : Int) - 1) = (q1 : Int) := by rw [IntKind.wrap_u64]; omega
            have t2 : (4294967296 : Int) ≤ (rp : Int) := by omega
            clear step brk hm HE e5 hrp g2
            go_wp2_with fail
            go_meet
            exact ⟨rfl, (by repeat (first | exact Ext.refl _ | assumption | apply Ext.alloc | apply Ext.drew | (refine Ext.trans ?_ (by assumption)) | (refine Ext.setNew ?_ (by simp <;> omega) _)))⟩
          · have HI := Lib.hid (DivM.next D1.out I.out hm (by omega))
            obtain ⟨kp, hkp⟩ : ∃ kp, kp = k - 1 := ⟨_, rfl⟩
            have a4 : IntKind.u64.wrap ((k : Int) - 1) = (kp : Int) := by rw [IntKind.wrap_u64]; omega
            replace HI := Lib.hid (show Inv u c1 Y n1 kp rp by rw [hkp, hrp]; exact HI.out)
            have kl : kp < k := by omega
            have t2 : ¬ (4294967296 : Int) ≤ (rp : Int) := by omega
            clear step brk hm e5 hrp hkp g2
            go_wp2
            go_round
            case rel => exact ⟨kp, rp, HI.out, rfl, rfl⟩
            case measure => simp [intOf]; omega
        · have HE : k = q1 := (DivM.stop D1.out I.out (by omega)).trans X1.out.symm
          have t3 : ¬ 4294967296 * (r : Int) + (c1 : Int) < (k : Int) * (n0 : Int) := by rw [← e5]; omega
          clear step brk e5 I hrp
          subst HE
          go_wp2_with fail
          go_meet
          exact ⟨rfl, (by repeat (first | exact Ext.refl _ | assumption | apply Ext.alloc | apply Ext.drew | (refine Ext.trans ?_ (by assumption)) | (refine Ext.setNew ?_ (by simp <;> omega) _)))⟩
  case rest =>
    obtain ⟨rfl, hX⟩ := hcut
    go_wp2_with fail
    go_loop [18, 16] (fun s t => RelD R1 c0 Y n1 s t) (fun s t => (intOf s).toNat)
    case atStart => exact ⟨kb, rb, Skb.out, rfl, rfl⟩
    case round =>
      obtain ⟨k, r, I0, rfl, rfl⟩ := hrel
      have I := Lib.hid I0
      obtain ⟨_, k2, _, r2⟩ := I0
      have hn1 := D2.out.hi
      have hn1' := D2.out.lo
      have hn0 := D2.out.n0
      have hc := D2.out.c
      have a1 : IntKind.u64.wrap (4294967296 * (r : Int)) = 4294967296 * (r : Int) := by rw [IntKind.wrap_u64]; omega
      have a2 : IntKind.u64.wrap (4294967296 * (r : Int) + (c0 : Int)) = 4294967296 * (r : Int) + (c0 : Int) := by rw [IntKind.wrap_u64]; omega
      obtain ⟨rp, hrp⟩ : ∃ rp, rp = r + n1 := ⟨_, rfl⟩
      have a3 : IntKind.u64.wrap ((r : Int) + (n1 : Int)) = (rp : Int) := by rw [IntKind.wrap_u64]; omega
      have step : (4294967296 ≤ k ∨ 4294967296 * r + c0 < k * n0) → 1 ≤ k := fun h => (DivM.more D2.out I.out h).1
      have brk : (4294967296 ≤ k ∨ 4294967296 * r + c0 < k * n0) → 4294967296 ≤ r + n1 → k - 1 = q0 := fun h g => (DivM.break_ D2.out I.out h g).trans X0.out.symm
      by_cases g1 : 4294967296 ≤ k
      · have hm : 4294967296 ≤ k ∨ 4294967296 * r + c0 < k * n0 := .inl g1
        have t1 : (4294967296 : Int) ≤ (k : Int) := by omega
        by_cases g2 : 4294967296 ≤ r + n1
        · have HE := brk hm g2
          have a4 : IntKind.u64.wrap ((k : Int) - 1) = (q0 : Int) := by rw [IntKind.wrap_u64]; omega
          have t2 : (4294967296 : Int) ≤ (rp : Int) := by omega
          clear step brk hm HE hrp g2
          go_wp2
          go_ret2
          exact ⟨ret_int2 HQ.out HR.out, (by repeat (first | exact Ext.refl _ | assumption | apply Ext.alloc | apply Ext.drew | (refine Ext.trans ?_ (by assumption)) | (refine Ext.setNew ?_ (by simp <;> omega) _)))⟩
        · have HI := Lib.hid (DivM.next D2.out I.out hm (by omega))
          obtain ⟨kp, hkp⟩ : ∃ kp, kp = k - 1 := ⟨_, rfl⟩
          have a4 : IntKind.u64.wrap ((k : Int) - 1) = (kp : Int) := by rw [IntKind.wrap_u64]; omega
          replace HI := Lib.hid (show Inv R1 c0 Y n1 kp rp by rw [hkp, hrp]; exact HI.out)
          have kl : kp < k := by omega
          have t2 : ¬ (4294967296 : Int) ≤ (rp : Int) := by omega
          clear step brk hm hrp hkp g2
          go_wp2
          go_round
          case rel => exact ⟨kp, rp, HI.out, rfl, rfl⟩
          case measure => simp [intOf]; omega
      · have hkn := kn_bd (show k < 4294967296 by omega) hn0
        have e5 : ((k * n0 : Nat) : Int) = (k : Int) * (n0 : Int) := Int.natCast_mul k n0
        have a5 : IntKind.u64.wrap ((k : Int) * (n0 : Int)) = (k : Int) * (n0 : Int) := by rw [← e5]; exact wr hkn
        have t1 : ¬ (4294967296 : Int) ≤ (k : Int) := by omega
        by_cases g3 : 4294967296 * r + c0 < k * n0
        · have hm : 4294967296 ≤ k ∨ 4294967296 * r + c0 < k * n0 := .inr g3
          have k1 := step hm
          have t3 : 4294967296 * (r : Int) + (c0 : Int) < (k : Int) * (n0 : Int) := by rw [← e5]; omega
          by_cases g2 : 4294967296 ≤ r + n1
          · have HE := brk hm g2
            have a4 : IntKind.u64.wrap ((k : Int) - 1) = (q0 : Int) := by rw [IntKind.wrap_u64]; omega
            have t2 : (4294967296 : Int) ≤ (rp : Int) := by omega
            clear step brk hm HE e5 hrp g2
            go_wp2
            go_ret2
            exact ⟨ret_int2 HQ.out HR.out, (by repeat (first | exact Ext.refl _ | assumption | apply Ext.alloc | apply Ext.drew | (refine Ext.trans ?_ (by assumption)) | (refine Ext.setNew ?_ (by simp <;> omega) _)))⟩
          · have HI := Lib.hid (DivM.next D2.out I.out hm (by omega))
            obtain ⟨kp, hkp⟩ : ∃ kp, kp = k - 1 := ⟨_, rfl⟩
            have a4 : IntKind.u64.wrap ((k : Int) - 1) = (kp : Int) := by rw [IntKind.wrap_u64]; omega
            replace HI := Lib.hid (show Inv R1 c0 Y n1 kp rp by rw [hkp, hrp]; exact HI.out)
            have kl : kp < k := by omega
            have t2 : ¬ (4294967296 : Int) ≤ (rp : Int) := by omega
            clear step brk hm e5 hrp hkp g2
            go_wp2
            go_round
            case rel => exact ⟨kp, rp, HI.out, rfl, rfl⟩
            case measure => simp [intOf]; omega
        · have HE : k = q0 := (DivM.stop D2.out I.out (by omega)).trans X0.out.symm
          have t3 : ¬ 4294967296 * (r : Int) + (c0 : Int) < (k : Int) * (n0 : Int) := by rw [← e5]; omega
          clear step brk e5 I hrp
          subst HE
          go_wp2
          go_ret2
          exact ⟨ret_int2 HQ.out HR.out, (by repeat (first | exact Ext.refl _ | assumption | apply Ext.alloc | apply Ext.drew | (refine Ext.trans ?_ (by assumption)) | (refine Ext.setNew ?_ (by simp <;> omega) _)))⟩

end Go.Proofs.YtlheppblioglpaaGreat.Div

/- Contracts of partOf (impl) and l02At (spec): both take a part of a number, rounded down. -/
namespace Go.Proofs.YtlheppblioglpaaGreat.Div
open Go.ChangeShapes Go.WideShapes Go.ChangeAt Go.RowKit
open Go.Proofs.YtlheppblioglpaaGreat.Num Go.Proofs.YtlheppblioglpaaGreat.Kit Go.Proofs.YtlheppblioglpaaGreat.Pts Go.Proofs.YtlheppblioglpaaGreat.Cmp Go.Proofs.YtlheppblioglpaaGreat.Gcd
set_option linter.unusedVariables false
set_option linter.unusedSimpArgs false

theorem ab_bd' {n : Int} (h1 : -2000000 ≤ n) (h2 : n ≤ 2000000) : 0 ≤ ab n ∧ ab n ≤ 2000000 := by
  unfold ab; by_cases h : n < 0
  · rw [if_pos h]; omega
  · rw [if_neg h]; omega
theorem flo_ediv {a b : Int} (hb : 1 ≤ b) : flo a b = a / b := by
  obtain ⟨h1, h2⟩ := flo_bd (a := a) hb
  have e := Int.mul_ediv_add_emod a b
  have m1 := Int.emod_nonneg a (show b ≠ 0 by omega)
  have m2 := Int.emod_lt_of_pos a (show 0 < b by omega)
  have k1 : flo a b < a / b + 1 := by
    refine Int.lt_of_mul_lt_mul_right (a := b) ?_ (by omega)
    rw [Int.add_mul, Int.one_mul, Int.mul_comm (a / b) b]; omega
  have k2 : a / b < flo a b + 1 := by
    refine Int.lt_of_mul_lt_mul_right (a := b) ?_ (by omega)
    rw [Int.add_mul, Int.one_mul, Int.mul_comm (a / b) b]; omega
  omega

/-- n times num / den, rounded down. -/
def pa (num den n : Int) : Int := n * num / den

theorem neg_div (P y : Nat) (hy : 1 ≤ y) : (-(P : Int)) / (y : Int) = if P % y = 0 then -((P / y : Nat) : Int) else -((P / y : Nat) : Int) - 1 := by
  have e := Nat.div_add_mod P y
  have m := Nat.mod_lt P (show 0 < y by omega)
  have pe : ((y * (P / y) : Nat) : Int) = (y : Int) * ((P / y : Nat) : Int) := Int.natCast_mul _ _
  by_cases h : P % y = 0
  · rw [if_pos h]
    rw [show -(P : Int) = -((P / y : Nat) : Int) * (y : Int) by rw [Int.neg_mul, Int.mul_comm, ← pe]; omega]
    exact Int.mul_ediv_cancel _ (by omega)
  · rw [if_neg h]
    rw [show -(P : Int) = ((y : Int) - ((P % y : Nat) : Int)) + (-((P / y : Nat) : Int) - 1) * (y : Int) by rw [Int.sub_mul, Int.neg_mul, Int.mul_comm, ← pe]; omega]
    rw [Int.add_mul_ediv_right _ _ (by omega), Int.ediv_eq_zero_of_lt (by omega) (by omega)]
    omega

theorem div64_any (hi lo y : Nat) (w : World) (h2 : hi < y) (y2 : y ≤ 100000000000000) (l2 : lo < 18446744073709551616) :
    Calls Tryz.prog 128 #[.int .u64 hi, .int .u64 lo, .int .u64 y] w fun e w' => e = .returned (.tuple #[.int .u64 (((hi * 18446744073709551616 + lo) / y : Nat) : Int), .int .u64 (((hi * 18446744073709551616 + lo) % y : Nat) : Int)]) ∧ Ext w w' := by
  rcases Nat.eq_zero_or_pos hi with h | h
  · subst h
    rw [Nat.zero_mul, Nat.zero_add]
    exact div64_zero lo y w (by omega) y2 l2
  · exact div64_some hi lo y w h h2 y2 l2

theorem div64_prod (P y : Nat) (w : World) (h2 : P / 18446744073709551616 < y) (y2 : y ≤ 100000000000000) :
    Calls Tryz.prog 128 #[.int .u64 ((P / 18446744073709551616 : Nat) : Int), .int .u64 ((P % 18446744073709551616 : Nat) : Int), .int .u64 y] w fun e w' => e = .returned (.tuple #[.int .u64 ((P / y : Nat) : Int), .int .u64 ((P % y : Nat) : Int)]) ∧ Ext w w' := by
  have h := div64_any (P / 18446744073709551616) (P % 18446744073709551616) y w h2 y2 (Nat.mod_lt _ (by omega))
  rw [show P / 18446744073709551616 * 18446744073709551616 + P % 18446744073709551616 = P by omega] at h
  exact h

set_option maxHeartbeats 1000000 in
/-- n * num / den, whole and rest, for a ratio of 0 to 1. -/
theorem wholeAndRest_any (x y A : Nat) (w : World) (k2 : x ≤ y) (d1 : 1 ≤ y) (d2 : y ≤ 100000000000000) (A2 : A ≤ 1000000000) :
    Calls Tryz.prog 115 #[Pt x y, .int .i64 A] w fun e w' => e = .returned (.tuple #[.int .i64 ((A * x / y : Nat) : Int), .int .i64 ((A * x % y : Nat) : Int)]) ∧ Ext w w' := by
  have P2 : A * x ≤ 1000000000 * y := Nat.mul_le_mul A2 (by omega)
  have hhi : A * x / 18446744073709551616 < y := by omega
  have hq : A * x / y ≤ 1000000000 := by
    rw [← Nat.lt_succ_iff, Nat.div_lt_iff_lt_mul (by omega)]; omega
  have hr : A * x % y < y := Nat.mod_lt _ (by omega)
  have eP : ((A * x : Nat) : Int) = (A : Int) * (x : Int) := Int.natCast_mul A x
  have HD := fun w' => div64_prod (A * x) y w' hhi d2
  generalize A * x / y = Q at *
  generalize A * x % y = R at *
  replace HD := Lib.hid HD
  have W1 : IntKind.u64.wrap (A : Int) = (A : Int) := by rw [IntKind.wrap_u64]; omega
  have W2 : IntKind.u64.wrap (x : Int) = (x : Int) := by rw [IntKind.wrap_u64]; omega
  have W3 : IntKind.u64.wrap (y : Int) = (y : Int) := by rw [IntKind.wrap_u64]; omega
  generalize hW : w.alloc (.cells #[.int .i64 (x : Int), .int .i64 (y : Int)] 104) = W
  have ec0 : W.cell? ⟨w.heap.size, 0, none⟩ = some (.int .i64 (x : Int)) := hW ▸ boxed 0 rfl rfl
  have ec1 : W.cell? ⟨w.heap.size, 1, none⟩ = some (.int .i64 (y : Int)) := hW ▸ boxed 1 rfl rfl
  have hX : Ext w W := hW ▸ (Ext.refl w).alloc _
  clear P2 hhi eP
  go_enter Tryz.func115, Tryz.ntmps115
  go_wp2_with fail
  refine (Tryz.bits_Mul64 A x (by omega) (by omega) _).mono ?_
  rintro e w2 ⟨rfl, rfl⟩
  go_wp2_with fail
  refine (HD.out _).mono ?_
  rintro e w1 ⟨rfl, hy⟩
  go_wp2
  go_ret2
  exact ⟨ret_int2 rfl rfl, hX.trans hy⟩

set_option maxHeartbeats 1000000 in
theorem partOf_any (num den n : Int) (w : World) (k1 : 0 ≤ num) (k2 : num ≤ den) (d1 : 1 ≤ den) (d2 : den ≤ 100000000000000) (n1 : -2000000 ≤ n) (n2 : n ≤ 2000000) :
    Calls Tryz.prog 92 #[Pt num den, .int .i64 n] w fun e w' => e = .returned (.int .i64 (pa num den n)) ∧ Ext w w' := by
  obtain ⟨x, rfl⟩ := Int.eq_ofNat_of_zero_le k1
  obtain ⟨y, rfl⟩ := Int.eq_ofNat_of_zero_le (show 0 ≤ den by omega)
  obtain ⟨A, hA⟩ : ∃ A : Nat, ab n = (A : Int) := ⟨(ab n).toNat, by have := (ab_bd' n1 n2).1; omega⟩
  have A2 : A ≤ 2000000 := by have := (ab_bd' n1 n2).2; omega
  have P2 : A * x ≤ 2000000 * y := Nat.mul_le_mul A2 (by omega)
  have hq : A * x / y ≤ 2000000 := by
    rw [← Nat.lt_succ_iff, Nat.div_lt_iff_lt_mul (by omega)]; omega
  have hr : A * x % y < y := Nat.mod_lt _ (by omega)
  have eP : ((A * x : Nat) : Int) = (A : Int) * (x : Int) := Int.natCast_mul A x
  have HP : pa x y n = if n < 0 then (if A * x % y = 0 then -((A * x / y : Nat) : Int) else -((A * x / y : Nat) : Int) - 1) else ((A * x / y : Nat) : Int) := by
    unfold pa
    by_cases h : n < 0
    · rw [if_pos h, ← neg_div (A * x) y (by omega), eP, ← hA, show ab n = -n from if_pos h, Int.neg_mul, Int.neg_neg]
    · rw [if_neg h, Int.natCast_ediv, eP, ← hA, show ab n = n from if_neg h]
  replace HP := Lib.hid HP
  have hAbs : ∀ w', Calls Tryz.prog 47 #[.int .i64 n] w' fun e w'' => e = .returned (.int .i64 (A : Int)) ∧ w' = w'' := fun w' => by rw [← hA]; exact absolute_any n w' (by omega) (by omega)
  replace hAbs := Lib.hid hAbs
  have hWR := fun w' => wholeAndRest_any x y A w' (by omega) (by omega) (by omega) (by omega)
  clear eP hA P2
  generalize A * x / y = Q at *
  generalize A * x % y = R at *
  replace hWR := Lib.hid hWR
  go_enter Tryz.func92, Tryz.ntmps92
  go_wp2_with fail
  generalize hW : w.alloc (.cells #[.int .i64 (x : Int), .int .i64 (y : Int)] 104) = W
  have hX : Ext w W := hW ▸ (Ext.refl w).alloc _
  have ec0 : ∀ w', Ext W w' → w'.cell? ⟨w.heap.size, 0, none⟩ = some (.int .i64 (x : Int)) := fun w' h => h.cellOf (hW ▸ boxed 0 rfl rfl)
  have ec1 : ∀ w', Ext W w' → w'.cell? ⟨w.heap.size, 1, none⟩ = some (.int .i64 (y : Int)) := fun w' h => h.cellOf (hW ▸ boxed 1 rfl rfl)
  refine wp_region_held_drew (S := (fun w' => Ext W w')) (by kernel_rfl) (by (try dsimp only); first | go_keep | exact (Ext.refl _).drew | exact Res.new2.drew | exact Res.new4.drew | exact ResB.drew (by assumption) | exact ResC.drew (by assumption) | assumption | exact Ext.drew (by assumption) | exact Res.drew (by assumption)) (fun hHeld => ?_)
  refine Ord.K 0 8 ?_
  refine Ord.K 1 9 ?_
  (refine wpAnyH_ready (rs := [2]) (by kernel_rfl) (by simp) ?_; refine AllReadyH.cons rfl (fun K hK => ?_) AllReadyH.nil; go_simp; (first | (go_at_call 115; refine (hWR.out _).mono ?_; rintro e w2 ⟨rfl, hy⟩) | (go_at_call 47; refine (hAbs.out _).mono ?_; rintro e w1 ⟨rfl, rfl⟩)); go_wp2_with fail; (refine hK.out _ _ (by first | assumption | exact Ext.trans (by assumption) hy | exact Res.ext (by assumption) hy | exact ResB.ext (by assumption) hy | exact ResC.ext (by assumption) hy | (go_split_ands; (repeat' apply And.intro) <;> exact Ext.cellOf hy (by assumption))) (fun hHeld => ?_)); clear hK K; (try simp only [Act.put, Ord.a, Ord.b, Ord.c]))
  (refine wpAnyH_ready (rs := [3]) (by kernel_rfl) (by simp) ?_; refine AllReadyH.cons rfl (fun K hK => ?_) AllReadyH.nil; go_simp; (first | (go_at_call 115; refine (hWR.out _).mono ?_; rintro e w2 ⟨rfl, hy⟩) | (go_at_call 47; refine (hAbs.out _).mono ?_; rintro e w1 ⟨rfl, rfl⟩)); go_wp2_with fail; (refine hK.out _ _ (by first | assumption | exact Ext.trans (by assumption) hy | exact Res.ext (by assumption) hy | exact ResB.ext (by assumption) hy | exact ResC.ext (by assumption) hy | (go_split_ands; (repeat' apply And.intro) <;> exact Ext.cellOf hy (by assumption))) (fun hHeld => ?_)); clear hK K; (try simp only [Act.put, Ord.a, Ord.b, Ord.c]))
  refine Ord.K 4 7 ?_
  refine Ord.K 5 12 ?_
  refine Ord.K 6 13 ?_
  refine Ord.K 7 5 ?_
  refine Ord.K 8 6 ?_
  refine wpAnyH_done (by kernel_rfl) ?_ _
  by_cases h : n < 0
  · rw [if_pos h] at HP
    by_cases g : R = 0
    · rw [if_pos g] at HP
      have g1 : ¬ (0 : Int) < (R : Int) := by omega
      clear g
      go_wp2
      go_ret
      exact ⟨ret_int HP.out, hX.trans hHeld⟩
    · rw [if_neg g] at HP
      have g1 : (0 : Int) < (R : Int) := by omega
      clear g
      go_wp2
      go_ret
      exact ⟨ret_int (by rw [HP.out]; omega), hX.trans hHeld⟩
  · rw [if_neg h] at HP
    go_wp2
    go_ret
    exact ⟨ret_int HP.out, hX.trans hHeld⟩

theorem partOf_small (num den n : Int) (w : World) (hs : den ≤ 1000000000) (k1 : 0 ≤ num) (k2 : num ≤ den) (d1 : 1 ≤ den) (n1 : -2000000 ≤ n) (n2 : n ≤ 2000000) :
    Calls Tryz.prog 92 #[Pt num den, .int .i64 n] w fun e w' => e = .returned (.int .i64 (pa num den n)) ∧ Ext w w' :=
  partOf_any num den n w k1 k2 d1 (by omega) n1 n2

theorem at_eq (h l x y q : Int) (hy : 1 ≤ y) : 1000 * q + (1000 * (h * x - q * y) + l * x) / y = (1000 * h + l) * x / y := by
  rw [show (1000 * h + l) * x = (1000 * (h * x - q * y) + l * x) + 1000 * q * y by grind, Int.add_mul_ediv_right _ _ (by omega)]
  omega

theorem fq_bd {h x y : Int} (hh : -2001 ≤ h ∧ h ≤ 2001) (k1 : 0 ≤ x) (k2 : x ≤ y) (d1 : 1 ≤ y) : -2003 ≤ flo (h * x) y ∧ flo (h * x) y ≤ 2001 := by
  obtain ⟨r0, r1⟩ := flo_bd (a := h * x) d1
  have m1 : h * x ≤ 2001 * y := Int.le_trans (Int.mul_le_mul_of_nonneg_right hh.2 k1) (Int.mul_le_mul_of_nonneg_left k2 (by omega))
  have m2 : -(2001 * y) ≤ h * x := by
    have a1 := Int.mul_le_mul_of_nonneg_right hh.1 k1
    have a2 := Int.mul_le_mul_of_nonneg_left k2 (show (0 : Int) ≤ 2001 by omega)
    omega
  constructor
  · refine Int.le_of_mul_le_mul_right (a := y) ?_ (by omega)
    omega
  · refine Int.le_of_mul_le_mul_right (a := y) ?_ (by omega)
    omega

set_option maxHeartbeats 1000000 in
theorem atS_any (a b x y : Int) (w : World) (ha : -1000000 ≤ a ∧ a ≤ 1000000) (hb : -1000000 ≤ b ∧ b ≤ 1000000) (k1 : 0 ≤ x) (k2 : x ≤ y) (d1 : 1 ≤ y) (d2 : y ≤ 100000000000000) :
    Calls Tryz.prog 101 #[.int .i64 a, .int .i64 b, Pt x y] w fun e w' => e = .returned (.int .i64 (a + pa x y (b - a))) ∧ Ext w w' := by
  obtain ⟨l0, l1⟩ := flo_bd (a := b - a) (b := 1000) (by omega)
  have hh : -2001 ≤ flo (b - a) 1000 ∧ flo (b - a) 1000 ≤ 2001 := by omega
  have e1 : b - a = 1000 * flo (b - a) 1000 + (b - a - 1000 * flo (b - a) 1000) := by omega
  have H := Lib.hid (show a + pa x y (b - a) = a + 1000 * flo (flo (b - a) 1000 * x) y + flo (1000 * (flo (b - a) 1000 * x - flo (flo (b - a) 1000 * x) y * y) + (b - a - 1000 * flo (b - a) 1000) * x) y by
    rw [flo_ediv (a := 1000 * (flo (b - a) 1000 * x - flo (flo (b - a) 1000 * x) y * y) + (b - a - 1000 * flo (b - a) 1000) * x) d1, Int.add_assoc, at_eq _ _ _ _ _ d1, ← e1]
    rfl)
  clear e1
  have hl : 0 ≤ b - a - 1000 * flo (b - a) 1000 ∧ b - a - 1000 * flo (b - a) 1000 ≤ 999 := by omega
  obtain ⟨q1, q2⟩ := fq_bd hh k1 k2 d1
  obtain ⟨r0, r1⟩ := flo_bd (a := flo (b - a) 1000 * x) d1
  obtain ⟨p1, p2⟩ := mul_bd (x := flo (b - a) 1000) (y := x) 2001 100000000000000 hh (by omega)
  obtain ⟨s1, s2⟩ := mul_bd (x := b - a - 1000 * flo (b - a) 1000) (y := x) 999 100000000000000 (by omega) (by omega)
  simp only [Int.reduceMul, Int.reduceNeg] at p1 p2 s1 s2
  obtain ⟨z1, z2⟩ := flo_abs (a := 1000 * (flo (b - a) 1000 * x - flo (flo (b - a) 1000 * x) y * y) + (b - a - 1000 * flo (b - a) 1000) * x) d1 300000000000000000 (by omega) (by omega)
  have u1 : -300100000000000000 ≤ flo (flo (b - a) 1000 * x) y * y ∧ flo (flo (b - a) 1000 * x) y * y ≤ 300100000000000000 := by omega
  obtain ⟨u1, u2⟩ := u1
  obtain ⟨hh1, hh2⟩ := hh
  obtain ⟨hl1, hl2⟩ := hl
  go_enter Tryz.func101, Tryz.ntmps101
  go_wp2_with (go_at_call 118; refine (floor_any _ _ _ (by omega) (by omega) (by omega)).mono ?_; rintro e w1 ⟨rfl, rfl⟩)
  go_ret
  exact ⟨ret_int H.out, (by repeat (first | exact Ext.refl _ | assumption | apply Ext.alloc | apply Ext.drew | (refine Ext.trans ?_ (by assumption)) | (refine Ext.setNew ?_ (by simp <;> omega) _)))⟩

end Go.Proofs.YtlheppblioglpaaGreat.Div

/- Contracts of positions: the point at a place of a way (impl, spec), positions of tracks. -/
namespace Go.Proofs.YtlheppblioglpaaGreat.Trk
open Go.ChangeShapes Go.WideShapes Go.ChangeAt Go.RowKit
open Go.Proofs.YtlheppblioglpaaGreat.Num Go.Proofs.YtlheppblioglpaaGreat.Kit Go.Proofs.YtlheppblioglpaaGreat.Pts Go.Proofs.YtlheppblioglpaaGreat.Seg Go.Proofs.YtlheppblioglpaaGreat.Div
set_option linter.unusedVariables false
set_option linter.unusedSimpArgs false

theorem pa_bd {x y n : Int} (k1 : 0 ≤ x) (k2 : x ≤ y) (d1 : 1 ≤ y) (n1 : -2000000 ≤ n) (n2 : n ≤ 2000000) : -2000000 ≤ pa x y n ∧ pa x y n ≤ 2000000 := by
  have m1 : n * x ≤ 2000000 * y := Int.le_trans (Int.mul_le_mul_of_nonneg_right n2 k1) (Int.mul_le_mul_of_nonneg_left k2 (by omega))
  have m2 : -2000000 * y ≤ n * x := by
    have a1 := Int.mul_le_mul_of_nonneg_right n1 k1
    have a2 := Int.mul_le_mul_of_nonneg_left k2 (show (0 : Int) ≤ 2000000 by omega)
    omega
  unfold pa
  exact ⟨Int.le_ediv_of_mul_le (by omega) m2, by
    have := Int.ediv_le_ediv (show 0 < y by omega) m1
    rw [Int.mul_ediv_cancel _ (by omega)] at this
    exact this⟩

set_option maxHeartbeats 2000000 in
theorem at_any (a b c d x y : Int) (w : World) (ha : Co a) (hb : Co b) (hc : Co c) (hd : Co d) (k1 : 0 ≤ x) (k2 : x ≤ y) (d1 : 1 ≤ y) (d2 : y ≤ 100000000000000) :
    Calls Tryz.prog 58 #[Sg a b c d, Pt x y] w fun e w' => e = .returned (Pt (a + pa x y (c - a)) (b + pa x y (d - b))) ∧ Ext w w' := by
  obtain ⟨p0, p1⟩ := pa_bd k1 k2 d1 (n := c - a) (by omega) (by omega)
  obtain ⟨q0, q1⟩ := pa_bd k1 k2 d1 (n := d - b) (by omega) (by omega)
  have PX := Lib.hid (partOf_any x y (c - a) (k1 := k1) (k2 := k2) (d1 := d1) (d2 := d2) (n1 := by omega) (n2 := by omega))
  have PY := Lib.hid (partOf_any x y (d - b) (k1 := k1) (k2 := k2) (d1 := d1) (d2 := d2) (n1 := by omega) (n2 := by omega))
  go_enter Tryz.func58, Tryz.ntmps58
  go_wp2_with fail
  refine (vector_any _ _ _ _ _ ha hb hc hd).mono ?_
  rintro e w1 ⟨rfl, h⟩
  obtain ⟨W0, hW0⟩ : ∃ W0, W0 = (w.alloc (.cells #[.int .i64 a, .int .i64 b, .int .i64 c, .int .i64 d] 99)).alloc (.cells #[.int .i64 x, .int .i64 y] 104) := ⟨_, rfl⟩
  have hs0 : W0.heap.size = w.heap.size + 1 + 1 := by rw [hW0]; simp
  have S0 := Lib.hid ((Res.new2 (W := W0) (x := .int .i64 0) (y := .int .i64 0) (t := 35)).ext (hW0 ▸ h))
  have hX : Ext w W0 := hW0 ▸ ((Ext.refl w).alloc _).alloc _
  have cs : ∀ i v, (#[Value.int .i64 a, .int .i64 b, .int .i64 c, .int .i64 d] : Array Value)[i]? = some v → W0.cell? ⟨w.heap.size, i, none⟩ = some v := fun i v hv => by rw [hW0]; exact ((Ext.refl _).alloc _).cellOf (boxed i hv rfl)
  have cr : ∀ i v, (#[Value.int .i64 x, .int .i64 y] : Array Value)[i]? = some v → W0.cell? ⟨w.heap.size + 1, i, none⟩ = some v := fun i v hv => by rw [hW0]; exact boxed i hv (by simp)
  have z1 : w.heap.size + 1 + 1 < w1.heap.size := by have := h.size; simp at this; omega
  have S1 : ResB W0 W0.heap.size 2 w1.heap.size [.int .i64 (c - a), .int .i64 (d - b)] (w1.alloc (.cells #[.int .i64 (c - a), .int .i64 (d - b)] 35)) :=
    ⟨S0.out.ext ((Ext.refl _).alloc _), by omega, Box.new2 rfl⟩
  rw [hs0] at S1
  generalize hV : w1.alloc (.cells #[.int .i64 (c - a), .int .i64 (d - b)] 35) = V
  rw [hV] at S1
  have ea : ∀ w', ResB W0 (w.heap.size + 1 + 1) 2 w1.heap.size [.int .i64 (c - a), .int .i64 (d - b)] w' → w'.cell? ⟨w.heap.size, 0, none⟩ = some (.int .i64 a) := fun w' h => h.1.1.cellOf (cs 0 _ rfl)
  have eb : ∀ w', ResB W0 (w.heap.size + 1 + 1) 2 w1.heap.size [.int .i64 (c - a), .int .i64 (d - b)] w' → w'.cell? ⟨w.heap.size, 1, none⟩ = some (.int .i64 b) := fun w' h => h.1.1.cellOf (cs 1 _ rfl)
  have ex : ∀ w', ResB W0 (w.heap.size + 1 + 1) 2 w1.heap.size [.int .i64 (c - a), .int .i64 (d - b)] w' → w'.cell? ⟨w.heap.size + 1, 0, none⟩ = some (.int .i64 x) := fun w' h => h.1.1.cellOf (cr 0 _ rfl)
  have ey : ∀ w', ResB W0 (w.heap.size + 1 + 1) 2 w1.heap.size [.int .i64 (c - a), .int .i64 (d - b)] w' → w'.cell? ⟨w.heap.size + 1, 1, none⟩ = some (.int .i64 y) := fun w' h => h.1.1.cellOf (cr 1 _ rfl)
  have ev : ∀ w', ResB W0 (w.heap.size + 1 + 1) 2 w1.heap.size [.int .i64 (c - a), .int .i64 (d - b)] w' → w'.cell? ⟨w1.heap.size, 0, none⟩ = some (.int .i64 (c - a)) := fun w' h => h.2.2.two.1.1
  have eu : ∀ w', ResB W0 (w.heap.size + 1 + 1) 2 w1.heap.size [.int .i64 (c - a), .int .i64 (d - b)] w' → w'.cell? ⟨w1.heap.size, 1, none⟩ = some (.int .i64 (d - b)) := fun w' h => h.2.2.two.1.2
  have A1 : IntKind.i64.wrap (a + pa x y (c - a)) = a + pa x y (c - a) := IntWalk.i64_in _ (by omega)
  have A2 : IntKind.i64.wrap (b + pa x y (d - b)) = b + pa x y (d - b) := IntWalk.i64_in _ (by omega)
  clear cs cr h hW0 hs0 S0 z1
  go_wp2_with fail
  refine wp_region_held_drew (S := (ResB W0 (w.heap.size + 1 + 1) 2 w1.heap.size [.int .i64 (c - a), .int .i64 (d - b)])) (by kernel_rfl) (by (try dsimp only); first | go_keep | exact (Ext.refl _).drew | exact Res.new2.drew | exact Res.new4.drew | exact ResB.drew (by assumption) | exact ResC.drew (by assumption) | assumption | exact Ext.drew (by assumption) | exact Res.drew (by assumption)) (fun hHeld => ?_)
  refine Ord.K 0 8 ?_
  refine Ord.K 1 9 ?_
  refine Ord.K 2 10 ?_
  refine Ord.K 3 11 ?_
  refine Ord.K 4 12 ?_
  refine Ord.K 5 13 ?_
  refine Ord.K 8 16 ?_
  refine Ord.K 9 17 ?_
  refine Ord.K 10 18 ?_
  refine Ord.K 11 19 ?_
  refine Ord.K 12 20 ?_
  refine Ord.K 13 21 ?_
  (refine wpAnyH_ready (rs := [6]) (by kernel_rfl) (by simp) ?_; refine AllReadyH.cons rfl (fun K hK => ?_) AllReadyH.nil; go_simp; (first | (go_at_call 92; with_reducible refine (PX.out _).mono ?_; rintro e w2 ⟨rfl, hy⟩) | (go_at_call 92; with_reducible refine (PY.out _).mono ?_; rintro e w2 ⟨rfl, hy⟩)); go_wp2_with fail; (refine hK.out _ _ (by first | assumption | exact Ext.trans (by assumption) hy | exact Res.ext (by assumption) hy | exact ResB.ext (by assumption) hy | exact ResC.ext (by assumption) hy | (go_split_ands; (repeat' apply And.intro) <;> exact Ext.cellOf hy (by assumption))) (fun hHeld => ?_)); clear hK K; (try simp only [Act.put, Ord.a, Ord.b, Ord.c]))
  refine Ord.K 7 15 ?_
  (refine wpAnyH_ready (rs := [14]) (by kernel_rfl) (by simp) ?_; refine AllReadyH.cons rfl (fun K hK => ?_) AllReadyH.nil; go_simp; (first | (go_at_call 92; with_reducible refine (PX.out _).mono ?_; rintro e w2 ⟨rfl, hy⟩) | (go_at_call 92; with_reducible refine (PY.out _).mono ?_; rintro e w2 ⟨rfl, hy⟩)); go_wp2_with fail; (refine hK.out _ _ (by first | assumption | exact Ext.trans (by assumption) hy | exact Res.ext (by assumption) hy | exact ResB.ext (by assumption) hy | exact ResC.ext (by assumption) hy | (go_split_ands; (repeat' apply And.intro) <;> exact Ext.cellOf hy (by assumption))) (fun hHeld => ?_)); clear hK K; (try simp only [Act.put, Ord.a, Ord.b, Ord.c]))
  refine Ord.K 15 23 ?_
  refine Ord.K 16 24 ?_
  (((first | refine Exists.elim (Res.two hHeld) (fun rx rh => ?_) | refine Exists.elim (ResC.two hHeld) (fun rx rh => ?_) | refine Exists.elim (Res.two hHeld.1) (fun rx rh => ?_)); refine Exists.elim rh (fun ry rb => ?_); have r0 := rb.two.1.1; have r1 := rb.two.1.2; have r2 := rb.two.2.1; have r3 := rb.two.2.2; clear rh); refine wpAnyH_ready (rs := [17]) (by kernel_rfl) (by simp) ?_; refine AllReadyH.cons rfl (fun K hK => ?_) AllReadyH.nil; go_simp; (refine hK.out _ _ (by with_reducible exact ResB.set (ResB.set hHeld _ _) _ _) (fun hHeld => ?_)); clear hK K; (try simp only [Act.put, Ord.a, Ord.b, Ord.c]))
  refine wpAnyH_done (by kernel_rfl) ?_ _
  go_wp2
  obtain ⟨⟨g0, g1⟩, _⟩ := (rb.set2 (u := .int .i64 (a + pa x y (c - a))) (v := .int .i64 (b + pa x y (d - b)))).two
  exact bodyPost_ret (v := Pt (a + pa x y (c - a)) (b + pa x y (d - b))) (by simp [results, Tryz.results58, go_sem, g0, g1]) rfl ⟨rfl, hX.trans hHeld.1.1⟩

theorem at_small (a b c d x y : Int) (w : World) (ha : Co a) (hb : Co b) (hc : Co c) (hd : Co d) (k1 : 0 ≤ x) (k2 : x ≤ y) (d1 : 1 ≤ y) (d2 : y ≤ 1000000000) :
    Calls Tryz.prog 58 #[Sg a b c d, Pt x y] w fun e w' => e = .returned (Pt (a + pa x y (c - a)) (b + pa x y (d - b))) ∧ Ext w w' :=
  at_any a b c d x y w ha hb hc hd k1 k2 d1 (by omega)

end Go.Proofs.YtlheppblioglpaaGreat.Trk

/- Contracts of PositionAt (impl, spec). -/
namespace Go.Proofs.YtlheppblioglpaaGreat.Trk
open Go.ChangeShapes Go.WideShapes Go.ChangeAt Go.RowKit
open Go.Proofs.YtlheppblioglpaaGreat.Num Go.Proofs.YtlheppblioglpaaGreat.Kit Go.Proofs.YtlheppblioglpaaGreat.Pts Go.Proofs.YtlheppblioglpaaGreat.Seg Go.Proofs.YtlheppblioglpaaGreat.Div
set_option linter.unusedVariables false
set_option linter.unusedSimpArgs false

/-- The position at a time of a leg. -/
def pkX (fs : List F3) (t : Int) (k : Nat) : Int := (fx fs k).x + pa (t - (fx fs k).t) (durI fs k) (hdX fs k)
def pkY (fs : List F3) (t : Int) (k : Nat) : Int := (fx fs k).y + pa (t - (fx fs k).t) (durI fs k) (hdY fs k)

theorem leg_in {fs : List F3} {t : Int} (hv : trB fs = true) (hl : lastB fs t = true) : (fx fs (legOf fs t)).t ≤ t ∧ t ≤ (fx fs (legOf fs t + 1)).t := by
  obtain ⟨⟨h2, _⟩, _⟩ := trB_yes hv
  obtain ⟨l0, l1⟩ := lastB_yes hl
  have hk := legOf_lt t h2
  refine ⟨legUp_at fs t l0 _, ?_⟩
  by_cases e : legOf fs t + 1 = fs.length - 1
  · rw [e]; exact l1
  · have := legUp_next fs t (fs.length - 1) (legOf fs t + 1) (by unfold legOf; omega) (by omega)
    omega

set_option maxHeartbeats 2000000 in
theorem positionAt_any (a : Option Addr) (cap : Nat) (fs : List F3) (t : Int) (w : World) (hf : Fxs w a fs) (hcap : fs.length ≤ cap) (hv : trB fs = true) (hl : lastB fs t = true) :
    Calls Tryz.prog 31 #[Tr (.slice a fs.length cap), .int .i64 t] w fun e w' => e = .returned (Pt (pkX fs t (legOf fs t)) (pkY fs t (legOf fs t))) ∧ Ext w w' := by
  obtain ⟨⟨h2, h40⟩, _⟩ := trB_yes hv
  have hk := legOf_lt t h2
  obtain ⟨⟨ca, cb, cc, cd⟩, d0, d1⟩ := leg_bounds hv hk
  obtain ⟨t0, t1⟩ := leg_in hv hl
  have HF := Lib.hid hf
  have HV := Lib.hid hv
  have PS := Lib.hid (fun w' => at_small _ _ _ _ (t - (fx fs (legOf fs t)).t) (durI fs (legOf fs t)) w' ca cb cc cd (by omega) (by unfold durI; omega) d0 d1)
  have HR := Lib.hid (And.intro (show pkX fs t (legOf fs t) = (fx fs (legOf fs t)).x + pa (t - (fx fs (legOf fs t)).t) (durI fs (legOf fs t)) ((fx fs (legOf fs t + 1)).x - (fx fs (legOf fs t)).x) from rfl) (show pkY fs t (legOf fs t) = (fx fs (legOf fs t)).y + pa (t - (fx fs (legOf fs t)).t) (durI fs (legOf fs t)) ((fx fs (legOf fs t + 1)).y - (fx fs (legOf fs t)).y) from rfl))
  have LA := Lib.hid (fun w' (hw : Fxs w' a fs) => legAt_any a cap fs t w' hw hcap hv hl)
  generalize legOf fs t = k at *
  rcases hf.2 with h | ⟨b, off, rfl, hb⟩
  · rw [h] at h2; simp at h2
  obtain ⟨c0, _, _⟩ := hb k (by omega)
  have T4 : IntKind.i64.wrap (t - (fx fs k).t) = t - (fx fs k).t := IntWalk.i64_in _ (by unfold durI at d1; omega)
  clear hb hf ca cb cc cd
  go_enter Tryz.func31, Tryz.ntmps31
  go_wp2_with fail
  refine (LA.out _ (HF.out.ext (by repeat (first | exact Ext.refl _ | assumption | apply Ext.alloc | apply Ext.drew | (refine Ext.trans ?_ (by assumption)) | (refine Ext.setNew ?_ (by simp <;> omega) _))))).mono ?_
  rintro e w1 ⟨rfl, h⟩
  obtain ⟨W0, hW0⟩ : ∃ W0, W0 = w.alloc (.cells #[.slice (some ⟨b, off, none⟩) fs.length cap] 28) := ⟨_, rfl⟩
  have hs0 : W0.heap.size = w.heap.size + 1 := by rw [hW0]; simp
  have S0 : Res W0 W0.heap.size 2 w1 := (Res.new2 (W := W0) (x := .int .i64 0) (y := .int .i64 0) (t := 35)).ext (hW0 ▸ h)
  rw [hs0] at S0
  have hX : Ext w W0 := hW0 ▸ (Ext.refl w).alloc _
  have ec : ∀ w', Res W0 (w.heap.size + 1) 2 w' → w'.cell? ⟨w.heap.size, 0, none⟩ = some (.slice (some ⟨b, off, none⟩) fs.length cap) := fun w' h => h.1.cellOf (hW0 ▸ boxed 0 rfl rfl)
  have ec0 : ∀ w', Res W0 (w.heap.size + 1) 2 w' → w'.cell? ⟨b, off + k * 3, none⟩ = some (.int .i64 (fx fs k).t) := fun w' h => h.1.cellOf (hX.cellOf c0)
  have i0 : (0 : Int) ≤ (k : Int) := by omega
  have i1 : (k : Int) < (fs.length : Int) := by omega
  clear hW0 hs0 c0 h
  go_wp2_with fail
  refine wp_region_held_drew (S := (Res W0 (w.heap.size + 1) 2)) (by kernel_rfl) (by (try dsimp only); first | go_keep | exact (Ext.refl _).drew | exact Res.new2.drew | exact Res.new4.drew | exact ResB.drew (by assumption) | exact ResC.drew (by assumption) | assumption | exact Ext.drew (by assumption) | exact Res.drew (by assumption)) (fun hHeld => ?_)
  refine Ord.K 0 9 ?_
  refine Ord.K 1 10 ?_
  refine Ord.K 3 12 ?_
  refine Ord.K 4 13 ?_
  refine Ord.K 5 14 ?_
  refine Ord.K 6 15 ?_
  refine Ord.K 7 16 ?_
  refine Ord.K 8 17 ?_
  refine Ord.K 9 18 ?_
  refine Ord.K 10 19 ?_
  refine Ord.K 11 20 ?_
  refine Ord.K 12 21 ?_
  (refine wpAnyH_ready (rs := [2]) (by kernel_rfl) (by simp) ?_; refine AllReadyH.cons rfl (fun K hK => ?_) AllReadyH.nil; go_simp; (first | (go_at_call 57; refine (leg_any _ _ _ _ _ (HF.out.ext (hX.trans (by assumption : Res _ _ _ _).1)) hk (by omega)).mono ?_; rintro e w2 ⟨rfl, hy⟩) | (go_at_call 59; refine (duration_any _ _ _ _ _ (HF.out.ext (hX.trans hHeld.1)) hk HV.out).mono ?_; rintro e w2 ⟨rfl, hy⟩) | (go_at_call 58; with_reducible refine (PS.out _).mono ?_; rintro e w2 ⟨rfl, hy⟩)); go_wp2_with fail; (refine hK.out _ _ (by first | assumption | exact Ext.trans (by assumption) hy | exact Res.ext (by assumption) hy | exact ResB.ext (by assumption) hy | exact ResC.ext (by assumption) hy | (go_split_ands; (repeat' apply And.intro) <;> exact Ext.cellOf hy (by assumption))) (fun hHeld => ?_)); clear hK K; (try simp only [Act.put, Ord.a, Ord.b, Ord.c]))
  (refine wpAnyH_ready (rs := [13]) (by kernel_rfl) (by simp) ?_; refine AllReadyH.cons rfl (fun K hK => ?_) AllReadyH.nil; go_simp; (first | (go_at_call 57; refine (leg_any _ _ _ _ _ (HF.out.ext (hX.trans (by assumption : Res _ _ _ _).1)) hk (by omega)).mono ?_; rintro e w2 ⟨rfl, hy⟩) | (go_at_call 59; refine (duration_any _ _ _ _ _ (HF.out.ext (hX.trans hHeld.1)) hk HV.out).mono ?_; rintro e w2 ⟨rfl, hy⟩) | (go_at_call 58; with_reducible refine (PS.out _).mono ?_; rintro e w2 ⟨rfl, hy⟩)); go_wp2_with fail; (refine hK.out _ _ (by first | assumption | exact Ext.trans (by assumption) hy | exact Res.ext (by assumption) hy | exact ResB.ext (by assumption) hy | exact ResC.ext (by assumption) hy | (go_split_ands; (repeat' apply And.intro) <;> exact Ext.cellOf hy (by assumption))) (fun hHeld => ?_)); clear hK K; (try simp only [Act.put, Ord.a, Ord.b, Ord.c]))
  refine Ord.K 14 23 ?_
  (refine wpAnyH_ready (rs := [15]) (by kernel_rfl) (by simp) ?_; refine AllReadyH.cons rfl (fun K hK => ?_) AllReadyH.nil; go_simp; (first | (go_at_call 57; refine (leg_any _ _ _ _ _ (HF.out.ext (hX.trans (by assumption : Res _ _ _ _).1)) hk (by omega)).mono ?_; rintro e w2 ⟨rfl, hy⟩) | (go_at_call 59; refine (duration_any _ _ _ _ _ (HF.out.ext (hX.trans hHeld.1)) hk HV.out).mono ?_; rintro e w2 ⟨rfl, hy⟩) | (go_at_call 58; with_reducible refine (PS.out _).mono ?_; rintro e w2 ⟨rfl, hy⟩)); go_wp2_with fail; (refine hK.out _ _ (by first | assumption | exact Ext.trans (by assumption) hy | exact Res.ext (by assumption) hy | exact ResB.ext (by assumption) hy | exact ResC.ext (by assumption) hy | (go_split_ands; (repeat' apply And.intro) <;> exact Ext.cellOf hy (by assumption))) (fun hHeld => ?_)); clear hK K; (try simp only [Act.put, Ord.a, Ord.b, Ord.c]))
  (((first | refine Exists.elim (Res.two hHeld) (fun rx rh => ?_) | refine Exists.elim (ResC.two hHeld) (fun rx rh => ?_) | refine Exists.elim (Res.two hHeld.1) (fun rx rh => ?_)); refine Exists.elim rh (fun ry rb => ?_); have r0 := rb.two.1.1; have r1 := rb.two.1.2; have r2 := rb.two.2.1; have r3 := rb.two.2.2; clear rh); refine wpAnyH_ready (rs := [16]) (by kernel_rfl) (by simp) ?_; refine AllReadyH.cons rfl (fun K hK => ?_) AllReadyH.nil; go_simp; (refine hK.out _ _ (by with_reducible exact Res.set (Res.set hHeld _ _) _ _) (fun hHeld => ?_)); clear hK K; (try simp only [Act.put, Ord.a, Ord.b, Ord.c]))
  refine wpAnyH_done (by kernel_rfl) ?_ _
  go_wp2
  rw [HR.out.1, HR.out.2]
  generalize (fx fs k).x + pa (t - (fx fs k).t) (durI fs k) ((fx fs (k + 1)).x - (fx fs k).x) = p at hHeld ⊢
  generalize (fx fs k).y + pa (t - (fx fs k).t) (durI fs k) ((fx fs (k + 1)).y - (fx fs k).y) = q at hHeld ⊢
  obtain ⟨⟨g0, g1⟩, _⟩ := (rb.set2 (u := .int .i64 p) (v := .int .i64 q)).two
  exact bodyPost_ret (v := Pt p q) (by simp [results, Tryz.results31, go_sem, g0, g1]) rfl ⟨rfl, hX.trans hHeld.1⟩

set_option maxHeartbeats 2000000 in
theorem at_spec (a : Option Addr) (cap : Nat) (fs : List F3) (t : Int) (w : World) (hf : Fxs w a fs) (hv : trB fs = true) (hl : lastB fs t = true) :
    Calls Tryz.prog 69 #[Tr (.slice a fs.length cap), .int .i64 t] w fun e w' => e = .returned (Pt (pkX fs t (legOf fs t)) (pkY fs t (legOf fs t))) ∧ Ext w w' := by
  obtain ⟨⟨h2, h40⟩, _⟩ := trB_yes hv
  have hk := legOf_lt t h2
  obtain ⟨⟨ca, cb, cc, cd⟩, d0, d1⟩ := leg_bounds hv hk
  obtain ⟨t0, t1⟩ := leg_in hv hl
  have HF := Lib.hid hf
  have PX := Lib.hid (fun w' => atS_any (fx fs (legOf fs t)).x (fx fs (legOf fs t + 1)).x (t - (fx fs (legOf fs t)).t) (durI fs (legOf fs t)) w' ca cc (by omega) (by unfold durI; omega) d0 (by omega))
  have PY := Lib.hid (fun w' => atS_any (fx fs (legOf fs t)).y (fx fs (legOf fs t + 1)).y (t - (fx fs (legOf fs t)).t) (durI fs (legOf fs t)) w' cb cd (by omega) (by unfold durI; omega) d0 (by omega))
  have HR := Lib.hid (And.intro (show pkX fs t (legOf fs t) = (fx fs (legOf fs t)).x + pa (t - (fx fs (legOf fs t)).t) (durI fs (legOf fs t)) ((fx fs (legOf fs t + 1)).x - (fx fs (legOf fs t)).x) from rfl) (show pkY fs t (legOf fs t) = (fx fs (legOf fs t)).y + pa (t - (fx fs (legOf fs t)).t) (durI fs (legOf fs t)) ((fx fs (legOf fs t + 1)).y - (fx fs (legOf fs t)).y) from rfl))
  have LA := Lib.hid (fun w' (hw : Fxs w' a fs) => leg_spec a cap fs t w' hw (by omega) (by omega))
  generalize legOf fs t = k at *
  rcases hf.2 with h | ⟨b, off, rfl, hb⟩
  · rw [h] at h2; simp at h2
  obtain ⟨c0, c1, c2⟩ := hb k (by omega)
  obtain ⟨e0, e1, e2⟩ := hb (k + 1) hk
  have T4 : IntKind.i64.wrap (t - (fx fs k).t) = t - (fx fs k).t := IntWalk.i64_in _ (by unfold durI at d1; omega)
  have T5 : IntKind.i64.wrap ((fx fs (k + 1)).t - (fx fs k).t) = durI fs k := by rw [IntWalk.i64_in _ (by unfold durI at d0 d1; omega)]; rfl
  have i0 : (0 : Int) ≤ (k : Int) := by omega
  have i1 : (k : Int) < (fs.length : Int) := by omega
  have i2 : (0 : Int) ≤ (k : Int) + 1 := by omega
  have i3 : (k : Int) + 1 < (fs.length : Int) := by omega
  have T0 : IntKind.i64.wrap ((k : Int) + 1) = (k : Int) + 1 := wrap_succ (by omega)
  have T1 : ((k : Int) + 1).toNat = k + 1 := by omega
  clear hb hf ca cb cc cd
  go_enter Tryz.func69, Tryz.ntmps69
  go_wp2_with fail
  refine (LA.out _ (HF.out.ext (by repeat (first | exact Ext.refl _ | assumption | apply Ext.alloc | apply Ext.drew | (refine Ext.trans ?_ (by assumption)) | (refine Ext.setNew ?_ (by simp <;> omega) _))))).mono ?_
  rintro e w1 ⟨rfl, h⟩
  have B := Lib.hid ((Box.new2 (w := w.alloc (.cells #[.slice (some ⟨b, off, none⟩) fs.length cap] 28)) (n := w.heap.size + 1) (x := .int .i64 0) (y := .int .i64 0) (t := 35) (by simp)).ext h)
  have X := Lib.hid ((((Ext.refl w).alloc _).alloc _).trans h)
  have ec : ∀ w', Ext w1 w' → w'.cell? ⟨w.heap.size, 0, none⟩ = some (.slice (some ⟨b, off, none⟩) fs.length cap) := fun w' g => g.cellOf (h.cellOf (((Ext.refl _).alloc _).cellOf (boxed 0 rfl rfl)))
  have ec0 : ∀ w', Ext w1 w' → w'.cell? ⟨b, off + k * 3, none⟩ = some (.int .i64 (fx fs k).t) := fun w' h => h.cellOf (X.out.cellOf c0)
  have ec1 : ∀ w', Ext w1 w' → w'.cell? ⟨b, off + k * 3 + 1, none⟩ = some (.int .i64 (fx fs k).x) := fun w' h => h.cellOf (X.out.cellOf c1)
  have ec2 : ∀ w', Ext w1 w' → w'.cell? ⟨b, off + k * 3 + 2, none⟩ = some (.int .i64 (fx fs k).y) := fun w' h => h.cellOf (X.out.cellOf c2)
  have ee0 : ∀ w', Ext w1 w' → w'.cell? ⟨b, off + (k + 1) * 3, none⟩ = some (.int .i64 (fx fs (k + 1)).t) := fun w' h => h.cellOf (X.out.cellOf e0)
  have ee1 : ∀ w', Ext w1 w' → w'.cell? ⟨b, off + (k + 1) * 3 + 1, none⟩ = some (.int .i64 (fx fs (k + 1)).x) := fun w' h => h.cellOf (X.out.cellOf e1)
  have ee2 : ∀ w', Ext w1 w' → w'.cell? ⟨b, off + (k + 1) * 3 + 2, none⟩ = some (.int .i64 (fx fs (k + 1)).y) := fun w' h => h.cellOf (X.out.cellOf e2)
  have z1 : w.heap.size + 1 < w1.heap.size := by have := h.size; simp at this; omega
  clear c0 c1 c2 e0 e1 e2 h
  go_upto_region 2 with fail
  go_cut [6, 7] (fun s s2 wx => (∃ B, s = .pointer (some ⟨B, 0, none⟩) ∧ B ≠ w.heap.size + 1 ∧ Box wx B [.int .i64 (fx fs k).t, .int .i64 (fx fs k).x, .int .i64 (fx fs k).y]) ∧ (∃ B, s2 = .pointer (some ⟨B, 0, none⟩) ∧ B ≠ w.heap.size + 1 ∧ Box wx B [.int .i64 (fx fs (k + 1)).t, .int .i64 (fx fs (k + 1)).x, .int .i64 (fx fs (k + 1)).y]) ∧ Ext w1 wx)
  case first =>
    go_region_held3 (fun w' => Ext w1 w')
      (repeat (first | exact Ext.refl _ | assumption | apply Ext.drew | apply Ext.alloc))
      (fail)
    all_goals
      go_wp2_with fail
      go_meet
      exact ⟨⟨_, rfl, by simp <;> omega, (by first | exact (Box.new3 (by simp)).drew | exact ((Box.new3 rfl).alloc _).drew)⟩, ⟨_, rfl, by simp <;> omega, (by first | exact (Box.new3 (by simp)).drew | exact ((Box.new3 rfl).alloc _).drew)⟩, ((Ext.refl _).alloc _ |>.alloc _).drew⟩
  case rest =>
    obtain ⟨⟨B6, rfl, n6, H6⟩, ⟨B7, rfl, n7, H7⟩, hx⟩ := hcut
    have f0 := (H6 0 _ rfl).1
    have f1 := (H6 1 _ rfl).1
    have f2 := (H6 2 _ rfl).1
    have g0 := (H7 0 _ rfl).1
    have g1 := (H7 1 _ rfl).1
    have g2 := (H7 2 _ rfl).1
    replace X := Lib.hid (X.out.trans hx)
    replace B := Lib.hid (B.out.ext hx)
    have z2 := hx.size
    clear ec ec0 ec1 ec2 ee0 ee1 ee2 hx
    go_upto_region 4 with fail
    generalize hW : wc.alloc (.cells #[.int .i64 (t - (fx fs k).t), .int .i64 (durI fs k)] 104) = W
    have hX : Ext wc W := hW ▸ (Ext.refl wc).alloc _
    have n8 : wc.heap.size ≠ w.heap.size + 1 := by omega
    have S0 : ResC W (w.heap.size + 1) 2 W := ResC.of2 (B.out.ext hX)
    have ef1 : ∀ w', ResC W (w.heap.size + 1) 2 w' → w'.cell? ⟨B6, 1, none⟩ = some (.int .i64 (fx fs k).x) := fun w' h => h.cell n6 (hX.cellOf f1)
    have ef2 : ∀ w', ResC W (w.heap.size + 1) 2 w' → w'.cell? ⟨B6, 2, none⟩ = some (.int .i64 (fx fs k).y) := fun w' h => h.cell n6 (hX.cellOf f2)
    have eg1 : ∀ w', ResC W (w.heap.size + 1) 2 w' → w'.cell? ⟨B7, 1, none⟩ = some (.int .i64 (fx fs (k + 1)).x) := fun w' h => h.cell n7 (hX.cellOf g1)
    have eg2 : ∀ w', ResC W (w.heap.size + 1) 2 w' → w'.cell? ⟨B7, 2, none⟩ = some (.int .i64 (fx fs (k + 1)).y) := fun w' h => h.cell n7 (hX.cellOf g2)
    have er0 : ∀ w', ResC W (w.heap.size + 1) 2 w' → w'.cell? ⟨wc.heap.size, 0, none⟩ = some (.int .i64 (t - (fx fs k).t)) := fun w' h => h.cell n8 (hW ▸ boxed 0 rfl rfl)
    have er1 : ∀ w', ResC W (w.heap.size + 1) 2 w' → w'.cell? ⟨wc.heap.size, 1, none⟩ = some (.int .i64 (durI fs k)) := fun w' h => h.cell n8 (hW ▸ boxed 1 rfl rfl)
    clear f0 f1 f2 g0 g1 g2 H6 H7 hW
    refine wp_region_held_drew (S := (ResC W (w.heap.size + 1) 2)) (by kernel_rfl) (by (try dsimp only); first | go_keep | exact (Ext.refl _).drew | exact Res.new2.drew | exact Res.new4.drew | exact ResB.drew (by assumption) | exact ResC.drew (by assumption) | assumption | exact Ext.drew (by assumption) | exact Res.drew (by assumption)) (fun hHeld => ?_)
    refine Ord.K 0 33 ?_
    refine Ord.K 1 34 ?_
    refine Ord.K 2 35 ?_
    refine Ord.K 3 36 ?_
    refine Ord.K 4 37 ?_
    refine Ord.K 6 39 ?_
    refine Ord.K 7 40 ?_
    refine Ord.K 8 41 ?_
    refine Ord.K 9 42 ?_
    refine Ord.K 10 43 ?_
    (refine wpAnyH_ready (rs := [5]) (by kernel_rfl) (by simp) ?_; refine AllReadyH.cons rfl (fun K hK => ?_) AllReadyH.nil; go_simp; (first | (go_at_call 101; with_reducible refine (PX.out _).mono ?_; rintro e w2 ⟨rfl, hy⟩) | (go_at_call 101; with_reducible refine (PY.out _).mono ?_; rintro e w2 ⟨rfl, hy⟩)); go_wp2_with fail; (refine hK.out _ _ (by first | assumption | exact Ext.trans (by assumption) hy | exact Res.ext (by assumption) hy | exact ResB.ext (by assumption) hy | exact ResC.ext (by assumption) hy | (go_split_ands; (repeat' apply And.intro) <;> exact Ext.cellOf hy (by assumption))) (fun hHeld => ?_)); clear hK K; (try simp only [Act.put, Ord.a, Ord.b, Ord.c]))
    (refine wpAnyH_ready (rs := [11]) (by kernel_rfl) (by simp) ?_; refine AllReadyH.cons rfl (fun K hK => ?_) AllReadyH.nil; go_simp; (first | (go_at_call 101; with_reducible refine (PX.out _).mono ?_; rintro e w2 ⟨rfl, hy⟩) | (go_at_call 101; with_reducible refine (PY.out _).mono ?_; rintro e w2 ⟨rfl, hy⟩)); go_wp2_with fail; (refine hK.out _ _ (by first | assumption | exact Ext.trans (by assumption) hy | exact Res.ext (by assumption) hy | exact ResB.ext (by assumption) hy | exact ResC.ext (by assumption) hy | (go_split_ands; (repeat' apply And.intro) <;> exact Ext.cellOf hy (by assumption))) (fun hHeld => ?_)); clear hK K; (try simp only [Act.put, Ord.a, Ord.b, Ord.c]))
    refine Ord.K 12 45 ?_
    ((first | ((first | refine Exists.elim (Res.two hHeld) (fun rx rh => ?_) | refine Exists.elim (ResC.two hHeld) (fun rx rh => ?_) | refine Exists.elim (Res.two hHeld.1) (fun rx rh => ?_)); refine Exists.elim rh (fun ry rb => ?_); have r0 := rb.two.1.1; have r1 := rb.two.1.2; have r2 := rb.two.2.1; have r3 := rb.two.2.2; clear rh) | ((first | refine Exists.elim (Res.four hHeld) (fun rx rh => ?_) | refine Exists.elim (Res.four hHeld.1) (fun rx rh => ?_)); refine Exists.elim rh (fun ry rh => ?_); refine Exists.elim rh (fun rz rh => ?_); refine Exists.elim rh (fun ru rb => ?_); have r0 := rb.four.1.1; have r1 := rb.four.1.2.1; have r2 := rb.four.1.2.2.1; have r3 := rb.four.1.2.2.2; have r4 := rb.four.2.1; have r5 := rb.four.2.2.1; have r6 := rb.four.2.2.2.1; have r7 := rb.four.2.2.2.2; clear rh) | (refine Exists.elim (Res.three hHeld) (fun rx rh => ?_); refine Exists.elim rh (fun ry rh => ?_); refine Exists.elim rh (fun rz rb => ?_); have r0 := rb.three'.1.1; have r1 := rb.three'.1.2.1; have r2 := rb.three'.1.2.2; have r3 := rb.three'.2.1; have r4 := rb.three'.2.2.1; have r5 := rb.three'.2.2.2; clear rh; (try simp only [World.cell?_drew, World.frozen?_drew] at r0 r1 r2 r3 r4 r5)) | ((first | refine Exists.elim (Res.five hHeld) (fun rx rh => ?_) | refine Exists.elim (Res.five hHeld.1) (fun rx rh => ?_)); refine Exists.elim rh (fun ry rh => ?_); refine Exists.elim rh (fun rz rh => ?_); refine Exists.elim rh (fun ru rh => ?_); refine Exists.elim rh (fun rt rb => ?_); have r0 := rb.five.1.1; have r1 := rb.five.1.2.1; have r2 := rb.five.1.2.2.1; have r3 := rb.five.1.2.2.2.1; have r4 := rb.five.1.2.2.2.2; have r5 := rb.five.2.1; have r6 := rb.five.2.2.1; have r7 := rb.five.2.2.2.1; have r8 := rb.five.2.2.2.2.1; have r9 := rb.five.2.2.2.2.2; clear rh; (try simp only [World.cell?_drew, World.frozen?_drew] at r0 r1 r2 r3 r4 r5 r6 r7 r8 r9)) | (refine Exists.elim (SD.one hHeld) (fun rx rh => ?_); have r0 := rh.1; have r1 := rh.2; clear rh)); refine wpAnyH_ready (rs := [13]) (by kernel_rfl) (by simp) ?_; refine AllReadyH.cons rfl (fun K hK => ?_) AllReadyH.nil; go_simp; (refine hK.out _ _ (by first | with_reducible exact SD.set hHeld _ | with_reducible exact Res.set (Res.set hHeld _ _) _ _ | with_reducible exact ResB.set (ResB.set hHeld _ _) _ _ | with_reducible exact ResC.set (ResC.set hHeld _ _) _ _ | with_reducible exact Res.set (Res.set (Res.set (Res.set hHeld _ _) _ _) _ _) _ _ | with_reducible exact ResB.set (ResB.set (ResB.set (ResB.set hHeld _ _) _ _) _ _) _ _ | with_reducible exact Res.set (Res.set (Res.set hHeld _ _) _ _) _ _ | with_reducible exact Res.set (Res.set (Res.set (Res.set (Res.set hHeld _ _) _ _) _ _) _ _) _ _) (fun hHeld => ?_)); clear hK K; (try simp only [Act.put, Ord.a, Ord.b, Ord.c]))
    refine wpAnyH_done (by kernel_rfl) ?_ _
    go_wp2
    rw [HR.out.1, HR.out.2]
    generalize (fx fs k).x + pa (t - (fx fs k).t) (durI fs k) ((fx fs (k + 1)).x - (fx fs k).x) = p at hHeld ⊢
    generalize (fx fs k).y + pa (t - (fx fs k).t) (durI fs k) ((fx fs (k + 1)).y - (fx fs k).y) = q at hHeld ⊢
    obtain ⟨⟨g0, g1⟩, _⟩ := (rb.set2 (u := .int .i64 p) (v := .int .i64 q)).two
    exact bodyPost_ret (v := Pt p q) (by simp [results, Tryz.results69, go_sem, g0, g1]) rfl ⟨rfl, hHeld.to (X.out.trans hX) (by omega)⟩

/-- What PositionAt answers. -/
def poX (fs : List F3) (t : Int) : Int := if ctI fs t = 0 then pkX fs t (legOf fs t) else 0
def poY (fs : List F3) (t : Int) : Int := if ctI fs t = 0 then pkY fs t (legOf fs t) else 0
theorem po_no {fs : List F3} {t : Int} (h : ctI fs t ≠ 0) : poX fs t = 0 ∧ poY fs t = 0 := ⟨if_neg h, if_neg h⟩
theorem po_yes {fs : List F3} {t : Int} (h : ctI fs t = 0) : poX fs t = pkX fs t (legOf fs t) ∧ poY fs t = pkY fs t (legOf fs t) := ⟨if_pos h, if_pos h⟩

set_option maxHeartbeats 1000000 in
theorem position_impl (a : Option Addr) (cap : Nat) (fs : List F3) (t : Int) (w : World) (hf : Fxs w a fs) (hcap : fs.length ≤ cap) :
    Calls Tryz.prog 11 #[Tr (.slice a fs.length cap), .int .i64 t] w fun e w' => e = .returned (.tuple #[Pt (poX fs t) (poY fs t), .int .i64 (ctI fs t)]) ∧ Ext w w' := by
  have HF := Lib.hid hf
  clear hf
  go_enter Tryz.func11, Tryz.ntmps11
  go_wp2_with fail
  refine (checkTime_any _ _ _ _ _ (HF.out.ext (by repeat (first | exact Ext.refl _ | assumption | apply Ext.alloc | apply Ext.drew | (refine Ext.trans ?_ (by assumption)) | (refine Ext.setNew ?_ (by simp <;> omega) _))))).mono ?_
  rintro e w1 ⟨rfl, h⟩
  have X := Lib.hid ((((Ext.refl w).alloc _).alloc _).trans h)
  have B := Lib.hid ((Box.new2 (w := w.alloc (.cells #[.slice a fs.length cap] 28)) (n := w.heap.size + 1) (x := .int .i64 0) (y := .int .i64 0) (t := 35) (by simp)).ext h)
  have bt : w1.cell? ⟨w.heap.size, 0, none⟩ = some (.slice a fs.length cap) := h.cellOf (((Ext.refl _).alloc _).cellOf (boxed 0 rfl rfl))
  clear h
  by_cases hc : ctI fs t = 0
  · obtain ⟨hv, hl⟩ := ctI_zero hc
    have HP := Lib.hid (po_yes hc)
    have HC := Lib.hid hc
    rw [hc]
    go_wp2_with fail
    refine (positionAt_any _ _ _ _ _ (HF.out.ext (X.out.trans (by repeat (first | exact Ext.refl _ | assumption | apply Ext.alloc | apply Ext.drew | (refine Ext.trans ?_ (by assumption)) | (refine Ext.setNew ?_ (by simp <;> omega) _))))) hcap hv hl).mono ?_
    rintro e w2 ⟨rfl, h⟩
    replace B := Lib.hid (B.out.ext h)
    replace X := Lib.hid (X.out.trans h)
    obtain ⟨⟨g0, g1⟩, g2, g3⟩ := B.out.two
    clear h bt
    go_wp2
    obtain ⟨⟨r0, r1⟩, _⟩ := (B.out.set2 (u := .int .i64 ((pkX fs t (legOf fs t)))) (v := .int .i64 ((pkY fs t (legOf fs t))))).two
    rw [HP.out.1, HP.out.2, HC.out]
    exact bodyPost_ret (v := .tuple #[Pt ((pkX fs t (legOf fs t))) ((pkY fs t (legOf fs t))), .int .i64 0]) (by simp [results, Tryz.results11, go_sem, r0, r1]) rfl ⟨rfl, (X.out.setNew (p := ⟨w.heap.size + 1, 0, none⟩) (by simp) _).setNew (p := ⟨w.heap.size + 1, 1, none⟩) (by simp) _⟩
  · have HP := Lib.hid (po_no hc)
    have hc2 : (ctI fs t != 0) = true := by simpa using hc
    obtain ⟨⟨g0, g1⟩, g2, g3⟩ := B.out.two
    go_wp2
    obtain ⟨⟨r0, r1⟩, _⟩ := (B.out.set2 (u := .int .i64 (0)) (v := .int .i64 (0))).two
    rw [HP.out.1, HP.out.2]
    exact bodyPost_ret (v := .tuple #[Pt (0) (0), .int .i64 (ctI fs t)]) (by simp [results, Tryz.results11, go_sem, r0, r1]) rfl ⟨rfl, (X.out.setNew (p := ⟨w.heap.size + 1, 0, none⟩) (by simp) _).setNew (p := ⟨w.heap.size + 1, 1, none⟩) (by simp) _⟩

end Go.Proofs.YtlheppblioglpaaGreat.Trk

/- Plain mathematics of positions: at the times of fixes, and between them. -/
namespace Go.Proofs.YtlheppblioglpaaGreat.Trk
open Go.ChangeShapes Go.WideShapes Go.ChangeAt Go.RowKit
open Go.Proofs.YtlheppblioglpaaGreat.Num Go.Proofs.YtlheppblioglpaaGreat.Kit Go.Proofs.YtlheppblioglpaaGreat.Pts Go.Proofs.YtlheppblioglpaaGreat.Seg Go.Proofs.YtlheppblioglpaaGreat.Div

set_option linter.unusedVariables false
set_option linter.unusedSimpArgs false

theorem pa_zero (y n : Int) : pa 0 y n = 0 := by unfold pa; simp
theorem pa_all {y : Int} (h : 1 ≤ y) (n : Int) : pa y y n = n := by unfold pa; exact Int.mul_ediv_cancel _ (by omega)
theorem pa_pos {x y n : Int} (k1 : 0 ≤ x) (k2 : x ≤ y) (d1 : 1 ≤ y) (hn : 0 ≤ n) : 0 ≤ pa x y n ∧ pa x y n ≤ n := by
  unfold pa
  refine ⟨Int.ediv_nonneg (Int.mul_nonneg hn k1) (by omega), ?_⟩
  have h := Int.ediv_le_ediv (show 0 < y by omega) (Int.mul_le_mul_of_nonneg_left k2 hn)
  rw [Int.mul_ediv_cancel _ (by omega)] at h
  exact h
theorem pa_neg {x y n : Int} (k1 : 0 ≤ x) (k2 : x ≤ y) (d1 : 1 ≤ y) (hn : n ≤ 0) : n ≤ pa x y n ∧ pa x y n ≤ 0 := by
  unfold pa
  constructor
  · refine Int.le_ediv_of_mul_le (by omega) ?_
    have h := Int.mul_le_mul_of_nonneg_left k2 (show 0 ≤ -n by omega)
    rw [Int.neg_mul, Int.neg_mul] at h
    omega
  · have h : n * x ≤ 0 := by
      have h := Int.mul_le_mul_of_nonneg_right hn k1
      rwa [Int.zero_mul] at h
    have h2 := Int.ediv_le_ediv (show 0 < y by omega) h
    rwa [Int.zero_ediv] at h2

/-- The leg at the time of its first fix. -/
theorem legUp_self {fs : List F3} (hv : trB fs = true) (k : Nat) : ∀ n, k < n → n < fs.length → legUp fs (fx fs k).t n = k
  | 0, h, _ => absurd h (by omega)
  | n + 1, h, hn => by
    unfold legUp
    by_cases e : k = n
    · subst e; rw [if_pos (Int.le_refl _)]
    · rw [if_neg (by have := times_lt hv k n (by omega) (by omega); omega)]
      exact legUp_self hv k n (by omega) (by omega)
theorem legOf_self {fs : List F3} (hv : trB fs = true) {k : Nat} (hk : k + 1 < fs.length) : legOf fs (fx fs k).t = k := legUp_self hv k (fs.length - 1) (by omega) (by omega)
/-- The leg at the end of a track. -/
theorem legOf_end {fs : List F3} (hv : trB fs = true) {k : Nat} (hk : k + 1 = fs.length - 1) : legOf fs (fx fs (k + 1)).t = k := by
  unfold legOf
  rw [← hk, legUp, if_pos (by have := times_lt hv k (k + 1) (by omega) (by have := (trB_yes hv).1; omega); omega)]

theorem lastB_fix {fs : List F3} (hv : trB fs = true) {k : Nat} (hk : k < fs.length) : lastB fs (fx fs k).t = true := by
  have a := times_le hv 0 k (by omega) hk
  have b := times_le hv k (fs.length - 1) (by omega) (by omega)
  exact inB_yes a b
theorem po_fix {fs : List F3} (hv : trB fs = true) {k : Nat} (hk : k < fs.length) : ctI fs (fx fs k).t = 0 ∧ poX fs (fx fs k).t = (fx fs k).x ∧ poY fs (fx fs k).t = (fx fs k).y := by
  have hc := ctI_in hv (lastB_fix hv hk)
  obtain ⟨⟨h2, _⟩, _⟩ := trB_yes hv
  refine ⟨hc, ?_⟩
  obtain ⟨e1, e2⟩ := po_yes hc
  rw [e1, e2]
  by_cases h : k + 1 < fs.length
  · rw [legOf_self hv h]
    unfold pkX pkY
    rw [Int.sub_self, pa_zero, pa_zero, Int.add_zero, Int.add_zero]
    exact ⟨rfl, rfl⟩
  · obtain ⟨j, rfl⟩ : ∃ j, k = j + 1 := ⟨k - 1, by omega⟩
    rw [legOf_end hv (by omega)]
    have d := (leg_bounds hv (k := j) (by omega)).2.1
    unfold pkX pkY
    rw [show (fx fs (j + 1)).t - (fx fs j).t = durI fs j from rfl, pa_all d, pa_all d]
    unfold hdX hdY
    exact ⟨by omega, by omega⟩

theorem pk_between {fs : List F3} {t : Int} (hv : trB fs = true) (hl : lastB fs t = true) :
    (((fx fs (legOf fs t)).x ≤ pkX fs t (legOf fs t) ∧ pkX fs t (legOf fs t) ≤ (fx fs (legOf fs t + 1)).x) ∨ ((fx fs (legOf fs t + 1)).x ≤ pkX fs t (legOf fs t) ∧ pkX fs t (legOf fs t) ≤ (fx fs (legOf fs t)).x)) ∧
    (((fx fs (legOf fs t)).y ≤ pkY fs t (legOf fs t) ∧ pkY fs t (legOf fs t) ≤ (fx fs (legOf fs t + 1)).y) ∨ ((fx fs (legOf fs t + 1)).y ≤ pkY fs t (legOf fs t) ∧ pkY fs t (legOf fs t) ≤ (fx fs (legOf fs t)).y)) := by
  obtain ⟨⟨h2, _⟩, _⟩ := trB_yes hv
  have hk := legOf_lt t h2
  obtain ⟨_, d0, _⟩ := leg_bounds hv hk
  obtain ⟨t0, t1⟩ := leg_in hv hl
  have y1 : t - (fx fs (legOf fs t)).t ≤ durI fs (legOf fs t) := by unfold durI; omega
  constructor
  · unfold pkX
    by_cases h : 0 ≤ hdX fs (legOf fs t)
    · have := pa_pos (x := t - (fx fs (legOf fs t)).t) (by omega) y1 d0 h
      unfold hdX at *
      exact .inl ⟨by omega, by omega⟩
    · have := pa_neg (x := t - (fx fs (legOf fs t)).t) (by omega) y1 d0 (show hdX fs (legOf fs t) ≤ 0 by omega)
      unfold hdX at *
      exact .inr ⟨by omega, by omega⟩
  · unfold pkY
    by_cases h : 0 ≤ hdY fs (legOf fs t)
    · have := pa_pos (x := t - (fx fs (legOf fs t)).t) (by omega) y1 d0 h
      unfold hdY at *
      exact .inl ⟨by omega, by omega⟩
    · have := pa_neg (x := t - (fx fs (legOf fs t)).t) (by omega) y1 d0 (show hdY fs (legOf fs t) ≤ 0 by omega)
      unfold hdY at *
      exact .inr ⟨by omega, by omega⟩

end Go.Proofs.YtlheppblioglpaaGreat.Trk
