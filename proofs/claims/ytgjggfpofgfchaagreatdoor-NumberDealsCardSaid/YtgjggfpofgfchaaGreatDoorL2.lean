import Derived.Laws.Bits64b
import Derived.Lib.BitFns
import Derived.Test.YtgjggfpofgfchaaGreatDoorL1
set_option linter.unusedSectionVars false
set_option linter.unusedVariables false
set_option linter.unusedSimpArgs false
namespace Go.Proofs.YtgjggfpofgfchaaGreatDoor
open Go.RowKit LimbNum

theorem and_low (a : Nat) (ha : a < 18446744073709551616) : bits .and .u64 (a : Int) 4294967295 = ((a % 4294967296 : Nat) : Int) := by
  have h := bits_and_u64_nat a 4294967295 ha (by omega)
  rw [show a &&& 4294967295 = a % 4294967296 from Nat.and_two_pow_sub_one_eq_mod a 32] at h
  exact h
theorem and_low_int (a : Int) (h0 : 0 ≤ a) (ha : a < 18446744073709551616) : bits .and .u64 a 4294967295 = a % 4294967296 := by
  obtain ⟨n, rfl⟩ := Int.eq_ofNat_of_zero_le h0
  rw [and_low n (by omega)]; omega

/-- The school's product of two numbers of two halves. -/
theorem mul_halves (x1 x0 y1 y0 K : Nat) : (x1 * K + x0) * (y1 * K + y0) = x1 * y1 * (K * K) + (x1 * y0 + x0 * y1) * K + x0 * y0 := by
  rw [Nat.add_mul, Nat.mul_add, Nat.mul_add, Nat.mul_mul_mul_comm, Nat.mul_right_comm x1 K y0, ← Nat.mul_assoc x0 y1 K, Nat.add_mul]
  omega

set_option maxHeartbeats 1000000 in
theorem mul64_any (x y : Nat) (hx : x < LimbNum.B) (hy : y < LimbNum.B) (w : World) :
    Calls Tryz.prog 141 #[.int .u64 x, .int .u64 y] w fun e w' => e = .returned (.tuple #[.int .u64 ((x * y / LimbNum.B : Nat) : Int), .int .u64 ((x * y % LimbNum.B : Nat) : Int)]) ∧ w = w' := by
  unfold LimbNum.B at *
  obtain ⟨x1, hx1⟩ : ∃ a, a = x / 4294967296 := ⟨_, rfl⟩
  obtain ⟨x0, hx0⟩ : ∃ a, a = x % 4294967296 := ⟨_, rfl⟩
  obtain ⟨y1, hy1⟩ : ∃ a, a = y / 4294967296 := ⟨_, rfl⟩
  obtain ⟨y0, hy0⟩ : ∃ a, a = y % 4294967296 := ⟨_, rfl⟩
  have e1 : (x : Int) / 4294967296 = (x1 : Int) := by omega
  have e2 : bits .and .u64 (x : Int) 4294967295 = (x0 : Int) := by rw [and_low x hx]; omega
  have e3 : (y : Int) / 4294967296 = (y1 : Int) := by omega
  have e4 : bits .and .u64 (y : Int) 4294967295 = (y0 : Int) := by rw [and_low y hy]; omega
  have b1 : x1 ≤ 4294967295 := by omega
  have b0 : x0 ≤ 4294967295 := by omega
  have c1 : y1 ≤ 4294967295 := by omega
  have c0 : y0 ≤ 4294967295 := by omega
  have p11 : x1 * y1 ≤ 4294967295 * 4294967295 := Nat.mul_le_mul b1 c1
  have p10 : x1 * y0 ≤ 4294967295 * 4294967295 := Nat.mul_le_mul b1 c0
  have p01 : x0 * y1 ≤ 4294967295 * 4294967295 := Nat.mul_le_mul b0 c1
  have p00 : x0 * y0 ≤ 4294967295 * 4294967295 := Nat.mul_le_mul b0 c0
  have exy : x * y = x1 * y1 * (4294967296 * 4294967296) + (x1 * y0 + x0 * y1) * 4294967296 + x0 * y0 := by
    rw [← mul_halves]; congr 1 <;> omega
  have hhi : ((x1 * y1 + (x1 * y0 + x0 * y0 / 4294967296) / 4294967296 + ((x1 * y0 + x0 * y0 / 4294967296) % 4294967296 + x0 * y1) / 4294967296 : Nat) : Int) = ((x * y / 18446744073709551616 : Nat) : Int) := by
    congr 1; rw [exy]; omega
  have hlo : IntKind.u64.wrap ((x : Int) * y) = ((x * y % 18446744073709551616 : Nat) : Int) := by
    rw [← Int.natCast_mul, IntKind.wrap_u64]; omega
  have q11 : (x1 : Int) * y1 = ((x1 * y1 : Nat) : Int) := (Int.natCast_mul _ _).symm
  have q10 : (x1 : Int) * y0 = ((x1 * y0 : Nat) : Int) := (Int.natCast_mul _ _).symm
  have q01 : (x0 : Int) * y1 = ((x0 * y1 : Nat) : Int) := (Int.natCast_mul _ _).symm
  have q00 : (x0 : Int) * y0 = ((x0 * y0 : Nat) : Int) := (Int.natCast_mul _ _).symm
  have Hhi := Lib.hid hhi
  have Hlo := Lib.hid hlo
  generalize x1 * y1 = P11 at *
  generalize x1 * y0 = P10 at *
  generalize x0 * y1 = P01 at *
  generalize x0 * y0 = P00 at *
  clear exy hhi hlo hx1 hx0 hy1 hy0 b1 b0 c1 c0
  have ht : bits .and .u64 ((P10 : Int) + P00 / 4294967296) 4294967295 = (P10 + P00 / 4294967296) % 4294967296 := and_low_int _ (by omega) (by omega)
  go_enter Tryz.func141, Tryz.ntmps141
  go_wp2
  rw [Hlo.out]
  go_ret2
  refine ⟨?_, rfl⟩
  rw [← Hhi.out]
  simp
end Go.Proofs.YtgjggfpofgfchaaGreatDoor

namespace Go.Proofs.YtgjggfpofgfchaaGreatDoor
open Go.RowKit LimbNum

/-- The table of the lengths of bytes, as the translation writes it. -/
theorem fold_tab : ({ data := (([0, 1, 2, 2, 3, 3, 3, 3, 4, 4, 4, 4, 4, 4, 4, 4, 5, 5, 5, 5, 5, 5, 5, 5, 5, 5, 5, 5, 5, 5, 5, 5, 6, 6, 6, 6, 6, 6, 6, 6, 6, 6, 6, 6, 6, 6, 6, 6, 6, 6, 6, 6, 6, 6, 6, 6, 6, 6, 6, 6, 6, 6, 6, 6].append [7, 7, 7, 7, 7, 7, 7, 7, 7, 7, 7, 7, 7, 7, 7, 7, 7, 7, 7, 7, 7, 7, 7, 7, 7, 7, 7, 7, 7, 7, 7, 7, 7, 7, 7, 7, 7, 7, 7, 7, 7, 7, 7, 7, 7, 7, 7, 7, 7, 7, 7, 7, 7, 7, 7, 7, 7, 7, 7, 7, 7, 7, 7, 7]).append ([8, 8, 8, 8, 8, 8, 8, 8, 8, 8, 8, 8, 8, 8, 8, 8, 8, 8, 8, 8, 8, 8, 8, 8, 8, 8, 8, 8, 8, 8, 8, 8, 8, 8, 8, 8, 8, 8, 8, 8, 8, 8, 8, 8, 8, 8, 8, 8, 8, 8, 8, 8, 8, 8, 8, 8, 8, 8, 8, 8, 8, 8, 8, 8].append [8, 8, 8, 8, 8, 8, 8, 8, 8, 8, 8, 8, 8, 8, 8, 8, 8, 8, 8, 8, 8, 8, 8, 8, 8, 8, 8, 8, 8, 8, 8, 8, 8, 8, 8, 8, 8, 8, 8, 8, 8, 8, 8, 8, 8, 8, 8, 8, 8, 8, 8, 8, 8, 8, 8, 8, 8, 8, 8, 8, 8, 8, 8, 8])).toArray } : ByteArray) = Lib.len8tab := by kernel_rfl

set_option maxHeartbeats 1000000 in
set_option maxRecDepth 100000 in
theorem len64_111 (x : Int) (w : World) (h0 : 0 ≤ x) (h1 : x ≤ 18446744073709551615) (c0 : 4294967296 ≤ x) (c1 : 65536 ≤ x / 4294967296) (c2 : 256 ≤ x / 4294967296 / 65536) :
    Calls Tryz.prog 138 #[.int .u64 x] w fun e w' => e = .returned (.int .i64 (Lib.bitLen x.toNat)) ∧ w = w' := by
  have _ := And.intro c0 (And.intro c1 c2)
  have hidx := Lib.run_index_len8tab (P := Tryz.prog) w 9 .u8 (x / 4294967296 / 65536 / 256) Tryz.underlying9 (by omega) (by omega)
  rw [Lib.len8_of _ (by omega) (by omega)] at hidx
  have l := Lib.bitLen_le8' (x / 4294967296 / 65536 / 256) (by omega) (by omega)
  have s := Lib.bitLen_shift56 x.toNat (by omega) (by omega)
  have e : (x / 4294967296 / 65536 / 256).toNat = x.toNat / 72057594037927936 := by omega
  rw [e] at l
  rw [e] at hidx
  have fin : ∀ m : Nat, m = 56 + Lib.bitLen (x.toNat / 72057594037927936) → m = Lib.bitLen x.toNat := by
    intro m hm
    omega
  have Fin := Lib.hid fin
  clear fin e s
  generalize Lib.bitLen (x.toNat / 72057594037927936) = m at *
  go_enter Tryz.func138, Tryz.ntmps138
  rw [fold_tab]
  go_wp2
  go_ret
  refine ⟨?_, rfl⟩
  rw [← Fin.out (56 + m) rfl]
  rfl

set_option maxHeartbeats 1000000 in
set_option maxRecDepth 100000 in
theorem len64_110 (x : Int) (w : World) (h0 : 0 ≤ x) (h1 : x ≤ 18446744073709551615) (c0 : 4294967296 ≤ x) (c1 : 65536 ≤ x / 4294967296) (c2 : x / 4294967296 / 65536 < 256) :
    Calls Tryz.prog 138 #[.int .u64 x] w fun e w' => e = .returned (.int .i64 (Lib.bitLen x.toNat)) ∧ w = w' := by
  have _ := And.intro c0 (And.intro c1 c2)
  have hidx := Lib.run_index_len8tab (P := Tryz.prog) w 9 .u8 (x / 4294967296 / 65536) Tryz.underlying9 (by omega) (by omega)
  rw [Lib.len8_of _ (by omega) (by omega)] at hidx
  have l := Lib.bitLen_le8' (x / 4294967296 / 65536) (by omega) (by omega)
  have s := Lib.bitLen_shift48 x.toNat (by omega) (by omega)
  have e : (x / 4294967296 / 65536).toNat = x.toNat / 281474976710656 := by omega
  rw [e] at l
  rw [e] at hidx
  have fin : ∀ m : Nat, m = 48 + Lib.bitLen (x.toNat / 281474976710656) → m = Lib.bitLen x.toNat := by
    intro m hm
    omega
  have Fin := Lib.hid fin
  clear fin e s
  generalize Lib.bitLen (x.toNat / 281474976710656) = m at *
  go_enter Tryz.func138, Tryz.ntmps138
  rw [fold_tab]
  go_wp2
  go_ret
  refine ⟨?_, rfl⟩
  rw [← Fin.out (48 + m) rfl]
  rfl

set_option maxHeartbeats 1000000 in
set_option maxRecDepth 100000 in
theorem len64_101 (x : Int) (w : World) (h0 : 0 ≤ x) (h1 : x ≤ 18446744073709551615) (c0 : 4294967296 ≤ x) (c1 : x / 4294967296 < 65536) (c2 : 256 ≤ x / 4294967296) :
    Calls Tryz.prog 138 #[.int .u64 x] w fun e w' => e = .returned (.int .i64 (Lib.bitLen x.toNat)) ∧ w = w' := by
  have _ := And.intro c0 (And.intro c1 c2)
  have hidx := Lib.run_index_len8tab (P := Tryz.prog) w 9 .u8 (x / 4294967296 / 256) Tryz.underlying9 (by omega) (by omega)
  rw [Lib.len8_of _ (by omega) (by omega)] at hidx
  have l := Lib.bitLen_le8' (x / 4294967296 / 256) (by omega) (by omega)
  have s := Lib.bitLen_shift40 x.toNat (by omega) (by omega)
  have e : (x / 4294967296 / 256).toNat = x.toNat / 1099511627776 := by omega
  rw [e] at l
  rw [e] at hidx
  have fin : ∀ m : Nat, m = 40 + Lib.bitLen (x.toNat / 1099511627776) → m = Lib.bitLen x.toNat := by
    intro m hm
    omega
  have Fin := Lib.hid fin
  clear fin e s
  generalize Lib.bitLen (x.toNat / 1099511627776) = m at *
  go_enter Tryz.func138, Tryz.ntmps138
  rw [fold_tab]
  go_wp2
  go_ret
  refine ⟨?_, rfl⟩
  rw [← Fin.out (40 + m) rfl]
  rfl

set_option maxHeartbeats 1000000 in
set_option maxRecDepth 100000 in
theorem len64_100 (x : Int) (w : World) (h0 : 0 ≤ x) (h1 : x ≤ 18446744073709551615) (c0 : 4294967296 ≤ x) (c1 : x / 4294967296 < 65536) (c2 : x / 4294967296 < 256) :
    Calls Tryz.prog 138 #[.int .u64 x] w fun e w' => e = .returned (.int .i64 (Lib.bitLen x.toNat)) ∧ w = w' := by
  have _ := And.intro c0 (And.intro c1 c2)
  have hidx := Lib.run_index_len8tab (P := Tryz.prog) w 9 .u8 (x / 4294967296) Tryz.underlying9 (by omega) (by omega)
  rw [Lib.len8_of _ (by omega) (by omega)] at hidx
  have l := Lib.bitLen_le8' (x / 4294967296) (by omega) (by omega)
  have s := Lib.bitLen_shift32 x.toNat (by omega) (by omega)
  have e : (x / 4294967296).toNat = x.toNat / 4294967296 := by omega
  rw [e] at l
  rw [e] at hidx
  have fin : ∀ m : Nat, m = 32 + Lib.bitLen (x.toNat / 4294967296) → m = Lib.bitLen x.toNat := by
    intro m hm
    omega
  have Fin := Lib.hid fin
  clear fin e s
  generalize Lib.bitLen (x.toNat / 4294967296) = m at *
  go_enter Tryz.func138, Tryz.ntmps138
  rw [fold_tab]
  go_wp2
  go_ret
  refine ⟨?_, rfl⟩
  rw [← Fin.out (32 + m) rfl]
  rfl

set_option maxHeartbeats 1000000 in
set_option maxRecDepth 100000 in
theorem len64_011 (x : Int) (w : World) (h0 : 0 ≤ x) (h1 : x ≤ 18446744073709551615) (c0 : x < 4294967296) (c1 : 65536 ≤ x) (c2 : 256 ≤ x / 65536) :
    Calls Tryz.prog 138 #[.int .u64 x] w fun e w' => e = .returned (.int .i64 (Lib.bitLen x.toNat)) ∧ w = w' := by
  have _ := And.intro c0 (And.intro c1 c2)
  have hidx := Lib.run_index_len8tab (P := Tryz.prog) w 9 .u8 (x / 65536 / 256) Tryz.underlying9 (by omega) (by omega)
  rw [Lib.len8_of _ (by omega) (by omega)] at hidx
  have l := Lib.bitLen_le8' (x / 65536 / 256) (by omega) (by omega)
  have s := Lib.bitLen_shift24 x.toNat (by omega) (by omega)
  have e : (x / 65536 / 256).toNat = x.toNat / 16777216 := by omega
  rw [e] at l
  rw [e] at hidx
  have fin : ∀ m : Nat, m = 24 + Lib.bitLen (x.toNat / 16777216) → m = Lib.bitLen x.toNat := by
    intro m hm
    omega
  have Fin := Lib.hid fin
  clear fin e s
  generalize Lib.bitLen (x.toNat / 16777216) = m at *
  go_enter Tryz.func138, Tryz.ntmps138
  rw [fold_tab]
  go_wp2
  go_ret
  refine ⟨?_, rfl⟩
  rw [← Fin.out (24 + m) rfl]
  rfl

set_option maxHeartbeats 1000000 in
set_option maxRecDepth 100000 in
theorem len64_010 (x : Int) (w : World) (h0 : 0 ≤ x) (h1 : x ≤ 18446744073709551615) (c0 : x < 4294967296) (c1 : 65536 ≤ x) (c2 : x / 65536 < 256) :
    Calls Tryz.prog 138 #[.int .u64 x] w fun e w' => e = .returned (.int .i64 (Lib.bitLen x.toNat)) ∧ w = w' := by
  have _ := And.intro c0 (And.intro c1 c2)
  have hidx := Lib.run_index_len8tab (P := Tryz.prog) w 9 .u8 (x / 65536) Tryz.underlying9 (by omega) (by omega)
  rw [Lib.len8_of _ (by omega) (by omega)] at hidx
  have l := Lib.bitLen_le8' (x / 65536) (by omega) (by omega)
  have s := Lib.bitLen_shift16 x.toNat (by omega) (by omega)
  have e : (x / 65536).toNat = x.toNat / 65536 := by omega
  rw [e] at l
  rw [e] at hidx
  have fin : ∀ m : Nat, m = 16 + Lib.bitLen (x.toNat / 65536) → m = Lib.bitLen x.toNat := by
    intro m hm
    omega
  have Fin := Lib.hid fin
  clear fin e s
  generalize Lib.bitLen (x.toNat / 65536) = m at *
  go_enter Tryz.func138, Tryz.ntmps138
  rw [fold_tab]
  go_wp2
  go_ret
  refine ⟨?_, rfl⟩
  rw [← Fin.out (16 + m) rfl]
  rfl

set_option maxHeartbeats 1000000 in
set_option maxRecDepth 100000 in
theorem len64_001 (x : Int) (w : World) (h0 : 0 ≤ x) (h1 : x ≤ 18446744073709551615) (c0 : x < 4294967296) (c1 : x < 65536) (c2 : 256 ≤ x) :
    Calls Tryz.prog 138 #[.int .u64 x] w fun e w' => e = .returned (.int .i64 (Lib.bitLen x.toNat)) ∧ w = w' := by
  have _ := And.intro c0 (And.intro c1 c2)
  have hidx := Lib.run_index_len8tab (P := Tryz.prog) w 9 .u8 (x / 256) Tryz.underlying9 (by omega) (by omega)
  rw [Lib.len8_of _ (by omega) (by omega)] at hidx
  have l := Lib.bitLen_le8' (x / 256) (by omega) (by omega)
  have s := Lib.bitLen_shift8 x.toNat (by omega) (by omega)
  have e : (x / 256).toNat = x.toNat / 256 := by omega
  rw [e] at l
  rw [e] at hidx
  have fin : ∀ m : Nat, m = 8 + Lib.bitLen (x.toNat / 256) → m = Lib.bitLen x.toNat := by
    intro m hm
    omega
  have Fin := Lib.hid fin
  clear fin e s
  generalize Lib.bitLen (x.toNat / 256) = m at *
  go_enter Tryz.func138, Tryz.ntmps138
  rw [fold_tab]
  go_wp2
  go_ret
  refine ⟨?_, rfl⟩
  rw [← Fin.out (8 + m) rfl]
  rfl

set_option maxHeartbeats 1000000 in
set_option maxRecDepth 100000 in
theorem len64_000 (x : Int) (w : World) (h0 : 0 ≤ x) (h1 : x ≤ 18446744073709551615) (c0 : x < 4294967296) (c1 : x < 65536) (c2 : x < 256) :
    Calls Tryz.prog 138 #[.int .u64 x] w fun e w' => e = .returned (.int .i64 (Lib.bitLen x.toNat)) ∧ w = w' := by
  have _ := And.intro c0 (And.intro c1 c2)
  have hidx := Lib.run_index_len8tab (P := Tryz.prog) w 9 .u8 (x) Tryz.underlying9 (by omega) (by omega)
  rw [Lib.len8_of _ (by omega) (by omega)] at hidx
  have l := Lib.bitLen_le8' (x) (by omega) (by omega)
  skip
  skip
  have fin : ∀ m : Nat, m = Lib.bitLen (x.toNat) → m = Lib.bitLen x.toNat := by
    intro m hm
    exact hm
  have Fin := Lib.hid fin
  clear fin 
  generalize Lib.bitLen (x.toNat) = m at *
  go_enter Tryz.func138, Tryz.ntmps138
  rw [fold_tab]
  go_wp2
  go_ret
  refine ⟨?_, rfl⟩
  rw [← Fin.out (m) rfl]
  rfl

theorem len64_any (x : Nat) (hx : x < LimbNum.B) (w : World) :
    Calls Tryz.prog 138 #[.int .u64 x] w fun e w' => e = .returned (.int .i64 (Lib.bitLen x)) ∧ w = w' := by
  unfold LimbNum.B at hx
  have h0 : (0 : Int) ≤ (x : Int) := by omega
  have h1 : (x : Int) ≤ 18446744073709551615 := by omega
  have e : (x : Int).toNat = x := by omega
  have g : Calls Tryz.prog 138 #[.int .u64 x] w fun e w' => e = .returned (.int .i64 (Lib.bitLen (x : Int).toNat)) ∧ w = w' := by
    by_cases c0 : 4294967296 ≤ (x : Int)
    · by_cases c1 : 65536 ≤ (x : Int) / 4294967296
      · by_cases c2 : 256 ≤ (x : Int) / 4294967296 / 65536
        · exact len64_111 _ w h0 h1 c0 c1 c2
        · exact len64_110 _ w h0 h1 c0 c1 (by omega)
      · by_cases c2 : 256 ≤ (x : Int) / 4294967296
        · exact len64_101 _ w h0 h1 c0 (by omega) c2
        · exact len64_100 _ w h0 h1 c0 (by omega) (by omega)
    · by_cases c1 : 65536 ≤ (x : Int)
      · by_cases c2 : 256 ≤ (x : Int) / 65536
        · exact len64_011 _ w h0 h1 (by omega) c1 c2
        · exact len64_010 _ w h0 h1 (by omega) c1 (by omega)
      · by_cases c2 : 256 ≤ (x : Int)
        · exact len64_001 _ w h0 h1 (by omega) (by omega) c2
        · exact len64_000 _ w h0 h1 (by omega) (by omega) (by omega)
  rwa [e] at g

theorem bitLen_64 {x : Nat} (hx : x < LimbNum.B) : Lib.bitLen x ≤ 64 := Lib.bitLen_le x 64 (Nat.le_refl _) (by unfold LimbNum.B at hx; omega)

set_option maxHeartbeats 400000 in
theorem zeros64_any (x : Nat) (hx : x < LimbNum.B) (w : World) :
    Calls Tryz.prog 162 #[.int .u64 x] w fun e w' => e = .returned (.int .i64 (64 - (Lib.bitLen x : Int))) ∧ w = w' := by
  have hl := bitLen_64 hx
  have hc := Lib.hid (len64_any x hx)
  generalize Lib.bitLen x = l at *
  clear hx
  go_enter Tryz.func162, Tryz.ntmps162
  go_wp2_with (go_at_call 138; refine (hc.out _).mono ?_; rintro e w' ⟨rfl, rfl⟩)
  go_ret
  exact ⟨rfl, rfl⟩
end Go.Proofs.YtgjggfpofgfchaaGreatDoor

namespace Go.Proofs.YtgjggfpofgfchaaGreatDoor
open Go.RowKit LimbNum

/-- How a product with a summand falls into its limbs. -/
theorem mul_add_parts {p c h l o d : Nat} (hh : h = p / LimbNum.B) (hl : l = p % LimbNum.B) (ho : o = (l + c + 0) / LimbNum.B) (hd : d = (l + c + 0) % LimbNum.B) :
    (p + c) % LimbNum.B = d ∧ (p + c) / LimbNum.B = h + o := by
  have e : p + c = d + LimbNum.B * (h + o) := by
    have h1 := Nat.mod_add_div p LimbNum.B
    have h2 := Nat.mod_add_div (l + c + 0) LimbNum.B
    rw [← hh, ← hl] at h1
    rw [← ho, ← hd] at h2
    rw [Nat.mul_add]; omega
  have hlt : d < LimbNum.B := by rw [hd]; exact Nat.mod_lt _ B_pos
  rw [e]
  constructor
  · rw [Nat.add_mul_mod_self_left, Nat.mod_eq_of_lt hlt]
  · rw [Nat.add_mul_div_left _ _ B_pos, Nat.div_eq_of_lt hlt, Nat.zero_add]

set_option maxRecDepth 100000 in
set_option maxHeartbeats 1000000 in
theorem multiplyAdd_some (b1 o1 ca la f s : Nat) (xs : List Nat) (w : World) (hla : xs.length = la) (hm : la ≤ 1073741824)
    (hfx : Fit xs) (hf : f < LimbNum.B) (hs : s < LimbNum.B) (hb1 : b1 < w.heap.size)
    (hca : ∀ i, i < la → w.cell? ⟨b1, o1 + i, none⟩ = some (.int .u64 ((xs.getD i 0 : Nat) : Int))) :
    Calls Tryz.prog 132 #[.slice (some ⟨b1, o1, none⟩) la ca, .int .u64 f, .int .u64 s] w fun e w' => ∃ v, e = .returned v ∧ Lim w' v (val xs * f + s) ∧ Kept w w' := by
  obtain ⟨i0, hi, hz0, hz1, hz2⟩ := info_parts Tryz.info_u64
  have hall := mul_all xs f s
  have hfit : Fit (fill (mulD xs f s xs.length) (xs.length + 1) (xs.length + 1)) := fill_fit fun i _ => mulD_lt hfx hf hs _ i
  rw [hla] at hall hfit
  have Hall := Lib.hid hall
  clear hall hla
  go_enter Tryz.func132, Tryz.ntmps132
  go_wp2_with (at_make; go_loud (refine wpList_make_full _ rfl _ _ 69 rfl w.heap.size 178 i0 (.int .u64 0) 1 Tryz.underlying69 hi hz0 hz1 .i64 .i64 _ _ (la + 1) rfl rfl (by omega) (by omega) (by rw [hz2]; omega) (by unfold maxLen; omega) (Nat.le_refl _) ?_); intro w1 hown1 hgrow1)
  rw [cells_made, ← fill_zero (mulD xs f s la)] at hown1
  have hO : Own w1 w.heap.size w.heap.size (la + 1) (fill (mulD xs f s la) 0 (la + 1)) := ⟨fill_length _ _ _, hown1⟩
  have hB : Below w.heap.size w w1 := (Below.refl _ _).grown hgrow1 (Nat.le_refl _) (by intro k h; cases h)
  clear hown1 hgrow1 hi hz0 hz1 hz2
  generalize hg : w.heap.size = G at *
  have hG := Lib.hid hg
  clear hg
  go_wp2
  go_loopw [8, 21] (fun c i wr => ∃ k : Nat, k ≤ la ∧ i = .int .i64 k ∧ c = .int .u64 ((mulC xs f s k : Nat) : Int) ∧ Own wr G G (la + 1) (fill (mulD xs f s la) k (la + 1)) ∧ Below G w wr) (fun _ i _ => la - (intOf i).toNat)
  case atStart => exact ⟨0, Nat.zero_le _, rfl, rfl, hO, hB⟩
  case round =>
    clear hO hB
    obtain ⟨k, hk, rfl, rfl, hown, hbel⟩ := hrel
    by_cases hlt : k < la
    · have hmul := fun w => mul64_any (xs.getD k 0) f (hfx.get k) hf w
      have hadd := run_Add64 (xs.getD k 0 * f % LimbNum.B) (mulC xs f s k) 0 (by omega)
      obtain ⟨p1, p2⟩ := mul_add_parts (p := xs.getD k 0 * f) (c := mulC xs f s k) rfl rfl rfl rfl
      have hc2 := mulC_lt hfx hf hs (k + 1)
      rw [← p1] at hadd
      rw [show (xs.getD k 0 * f + mulC xs f s k) % LimbNum.B = mulD xs f s la k by simp [mulD, hlt]] at hadd
      rw [show (xs.getD k 0 * f + mulC xs f s k) / LimbNum.B = mulC xs f s (k + 1) from rfl] at p2
      rw [show ((0 : Nat) : Int) = 0 from rfl] at hadd
      have hset := hown.set k (mulD xs f s la k)
      rw [fill_set] at hset
      have hfree := hown.free k
      have hcell := (hbel.cell (p := ⟨b1, o1 + k, none⟩) hb1).trans (hca k hlt)
      have hold := hown.cell (i := k) (by omega)
      clear p1
      generalize (xs.getD k 0 * f % LimbNum.B + mulC xs f s k + 0) / LimbNum.B = o at *
      generalize xs.getD k 0 * f % LimbNum.B = l at *
      generalize xs.getD k 0 * f / LimbNum.B = h at *
      generalize xs.getD k 0 = x at *
      generalize (fill (mulD xs f s la) k (la + 1)).getD k 0 = z at *
      have hb : h + o < 18446744073709551616 := by rw [← p2]; exact hc2
      have P2 := Lib.hid p2
      have Hmul := Lib.hid hmul
      clear p2 hmul hc2
      go_wp2_with (go_at_call 141; refine (Hmul.out _).mono ?_; rintro e w' ⟨rfl, rfl⟩)
      go_roundw
      case rel => exact ⟨k + 1, by omega, by go_num, by rw [P2.out]; go_num, hset, hbel.setCell (Nat.le_refl _) _⟩
      case measure => simp [intOf]; omega
    · obtain rfl : k = la := by omega
      have hset := hown.set k (mulD xs f s k k)
      rw [fill_set] at hset
      rw [show mulD xs f s k k = mulC xs f s k by simp [mulD]] at hset
      have hfree := hown.free k
      have hold := hown.cell (i := k) (by omega)
      generalize (fill (mulD xs f s k) k (k + 1)).getD k 0 = z at *
      go_wp2_with fail
      have hbel2 := hbel.setCell (Nat.le_refl G) (p := ⟨G, k, none⟩) (.int .u64 ((mulC xs f s k : Nat) : Int))
      have hrow := hset.row
      generalize (wr.setCell ⟨G, k, none⟩ (.int .u64 ((mulC xs f s k : Nat) : Int))) = w2 at *
      refine (trimmed_any G 0 (k + 1) (k + 1) (fill (mulD xs f s k) (k + 1) (k + 1)) w2 (fill_length _ _ _) (by omega) (Nat.le_refl _) (fun i hi => by rw [Nat.zero_add]; exact hset.cell hi)).mono ?_
      rintro e w' ⟨rfl, rfl⟩
      go_wp2
      go_ret
      refine ⟨_, rfl, ?_, by unfold Kept; rw [hG.out]; exact hbel2⟩
      rw [← Hall.out]
      exact lim_of_row hrow hfit (by rw [fill_length]; exact Nat.le_refl _)

set_option maxRecDepth 100000 in
set_option maxHeartbeats 1000000 in
theorem multiplyAdd_nil (ca f s : Nat) (w : World) (hs : s < LimbNum.B) :
    Calls Tryz.prog 132 #[.slice none 0 ca, .int .u64 f, .int .u64 s] w fun e w' => ∃ v, e = .returned v ∧ Lim w' v s ∧ Kept w w' := by
  obtain ⟨i0, hi, hz0, hz1, hz2⟩ := info_parts Tryz.info_u64
  go_enter Tryz.func132, Tryz.ntmps132
  go_wp2_with (at_make; go_loud (refine wpList_make_full _ rfl _ _ 69 rfl w.heap.size 178 i0 (.int .u64 0) 1 Tryz.underlying69 hi hz0 hz1 .i64 .i64 _ _ 1 rfl rfl (by omega) (by omega) (by rw [hz2]; omega) (by unfold maxLen; omega) (Nat.le_refl _) ?_); intro w1 hown1 hgrow1)
  rw [cells_made] at hown1
  have hO : Own w1 w.heap.size w.heap.size 1 [0] := ⟨rfl, hown1⟩
  have hB : Below w.heap.size w w1 := (Below.refl _ _).grown hgrow1 (Nat.le_refl _) (by intro k h; cases h)
  clear hown1 hgrow1 hi hz0 hz1 hz2
  generalize hg : w.heap.size = G at *
  have hG := Lib.hid hg
  clear hg
  go_wp2
  go_loopw [8, 21] (fun c i wr => i = .int .i64 0 ∧ c = .int .u64 s ∧ Own wr G G 1 [0] ∧ Below G w wr) (fun _ i _ => 0)
  case atStart => exact ⟨rfl, rfl, hO, hB⟩
  case round =>
    clear hO hB
    obtain ⟨rfl, rfl, hown, hbel⟩ := hrel
    have hset := hown.set 0 s
    have hfree := hown.free 0
    have hold := hown.cell (i := 0) (by omega)
    go_wp2_with fail
    have hbel2 := hbel.setCell (Nat.le_refl G) (p := ⟨G, 0, none⟩) (.int .u64 ((s : Nat) : Int))
    have hrow := hset.row
    generalize (wr.setCell ⟨G, 0, none⟩ (.int .u64 s)) = w2 at *
    refine (trimmed_any G 0 1 1 [s] w2 rfl (by omega) (Nat.le_refl _) (fun i hi => by rw [Nat.zero_add]; exact hset.cell hi)).mono ?_
    rintro e w' ⟨rfl, rfl⟩
    go_wp2
    go_ret
    refine ⟨_, rfl, ?_, by unfold Kept; rw [hG.out]; exact hbel2⟩
    have := lim_of_row hrow (Fit.cons hs Fit.nil) (Nat.le_refl _)
    simpa [val] using this

theorem multiplyAdd_any (va : Value) (x f s : Nat) (w : World) (ha : Lim w va x) (hx : size x ≤ 1073741824) (hf : f < LimbNum.B) (hs : s < LimbNum.B) :
    Calls Tryz.prog 132 #[va, .int .u64 f, .int .u64 s] w fun e w' => ∃ v, e = .returned v ∧ Lim w' v (x * f + s) ∧ Kept w w' := by
  obtain ⟨a1, c1, rfl, _, hr1⟩ := ha
  have e := val_limbs x
  rcases hr1 with ⟨rfl, h1⟩ | ⟨b1, o1, rfl, hb1, hc1⟩
  · obtain rfl : x = 0 := limbs_eq_nil.1 h1
    rw [Nat.zero_mul, Nat.zero_add]
    exact multiplyAdd_nil c1 f s w hs
  · have := multiplyAdd_some b1 o1 c1 (size x) f s (limbs x) w rfl hx (limbs_fit _) hf hs hb1 hc1
    rwa [e] at this
end Go.Proofs.YtgjggfpofgfchaaGreatDoor

namespace Go.Proofs.YtgjggfpofgfchaaGreatDoor
open Go.RowKit LimbNum

theorem size_eq_zero {n : Nat} (h : size n = 0) : n = 0 := by
  by_cases h0 : n = 0
  · exact h0
  · have := size_pos.2 h0; omega

set_option maxRecDepth 100000 in
set_option maxHeartbeats 1000000 in
theorem multiplyLimbs_none (va vb : Option Addr) (la lb ca cb : Nat) (w : World) (h : la = 0 ∨ lb = 0) :
    Calls Tryz.prog 108 #[.slice va la ca, .slice vb lb cb] w fun e w' => e = .returned (.slice none 0 0) ∧ w = w' := by
  by_cases h0 : la = 0
  · subst h0
    go_enter Tryz.func108, Tryz.ntmps108
    go_wp2
    go_ret
    exact ⟨rfl, rfl⟩
  · have hb : lb = 0 := by omega
    subst hb
    have hne : ((la : Int) == 0) = false := by rw [beq_eq_false_iff_ne]; omega
    have hpos : (0 : Int) < la := by omega
    clear h h0
    go_enter Tryz.func108, Tryz.ntmps108
    go_wp2
    go_ret
    exact ⟨rfl, rfl⟩

set_option maxRecDepth 100000 in
set_option maxHeartbeats 2000000 in
theorem multiplyLimbs_some (b1 o1 ca la b2 o2 cb lb : Nat) (xs ys : List Nat) (w : World) (hla : xs.length = la) (hlb : ys.length = lb) (hma : la ≤ 1073741824) (hmb : lb ≤ 1073741824) (hpa : 0 < la) (hpb : 0 < lb)
    (hfx : Fit xs) (hfy : Fit ys) (hb1 : b1 < w.heap.size) (hb2 : b2 < w.heap.size)
    (hca : ∀ i, i < la → w.cell? ⟨b1, o1 + i, none⟩ = some (.int .u64 ((xs.getD i 0 : Nat) : Int)))
    (hcb : ∀ i, i < lb → w.cell? ⟨b2, o2 + i, none⟩ = some (.int .u64 ((ys.getD i 0 : Nat) : Int))) :
    Calls Tryz.prog 108 #[.slice (some ⟨b1, o1, none⟩) la ca, .slice (some ⟨b2, o2, none⟩) lb cb] w fun e w' => ∃ v, e = .returned v ∧ Lim w' v (val xs * val ys) ∧ Kept w w' := by
  obtain ⟨i0, hi, hz0, hz1, hz2⟩ := info_parts Tryz.info_u64
  have hall := mo_all xs ys
  have hmo0 : mo xs ys 0 = List.replicate (la + lb) 0 := by simp [mo, hla, hlb]
  have hlen : ∀ i, (mo xs ys i).length = la + lb := fun i => by rw [mo_length, hla, hlb]
  rw [hla] at hall
  have Hall := Lib.hid hall
  have Hlen := Lib.hid hlen
  have Hlb := Lib.hid hlb
  clear hall hla hlen hlb
  have hne : ((la : Int) == 0) = false := by rw [beq_eq_false_iff_ne]; omega
  have hne2 : ((lb : Int) == 0) = false := by rw [beq_eq_false_iff_ne]; omega
  go_enter Tryz.func108, Tryz.ntmps108
  go_wp2_with (at_make; go_loud (refine wpList_make_full _ rfl _ _ 69 rfl w.heap.size 178 i0 (.int .u64 0) 1 Tryz.underlying69 hi hz0 hz1 .i64 .i64 _ _ (la + lb) rfl rfl (by omega) (by omega) (by rw [hz2]; omega) (by unfold maxLen; omega) (Nat.le_refl _) ?_); intro w1 hown1 hgrow1)
  rw [cells_made, ← hmo0] at hown1
  have hO : Own w1 w.heap.size w.heap.size (la + lb) (mo xs ys 0) := ⟨Hlen.out _, hown1⟩
  have hB : Below w.heap.size w w1 := (Below.refl _ _).grown hgrow1 (Nat.le_refl _) (by intro k h; cases h)
  clear hown1 hgrow1 hi hz0 hz1 hz2 hmo0
  generalize hg : w.heap.size = G at *
  have hG := Lib.hid hg
  clear hg
  go_wp2
  go_loopw [31] (fun i wr => ∃ k : Nat, k ≤ la ∧ i = .int .i64 k ∧ Own wr G G (la + lb) (mo xs ys k) ∧ Below G w wr) (fun i _ => la - (intOf i).toNat)
  case atStart => exact ⟨0, Nat.zero_le _, rfl, hO, hB⟩
  case round =>
    clear hO hB
    obtain ⟨k, hk, rfl, hown, hbel⟩ := hrel
    by_cases hlt : k < la
    · have hcell := (hbel.cell (p := ⟨b1, o1 + k, none⟩) hb1).trans (hca k hlt)
      have hfp : Fit (mo xs ys k) := mo_fit hfx hfy k
      have hx := hfx.get k
      have hend : (mr (mo xs ys k) k (xs.getD k 0) ys lb).1.set (k + lb) (mr (mo xs ys k) k (xs.getD k 0) ys lb).2 = mo xs ys (k + 1) := by simp only [mo, Hlb.out]
      have Hend := Lib.hid hend
      have hplen := Hlen.out k
      have Hplen := Lib.hid hplen
      clear hend hplen
      generalize xs.getD k 0 = x at *
      obtain ⟨p, hp⟩ : ∃ p, mo xs ys k = p := ⟨_, rfl⟩
      rw [hp] at hown hfp Hend Hplen
      clear hp
      have hmr0 : mr p k x ys 0 = (p, 0) := rfl
      go_wp2
      obtain ⟨wo, hwo⟩ : ∃ wo : World, wo = wr := ⟨_, rfl⟩
      subst hwo
      go_loopw [9, 46] (fun c i wr => ∃ j : Nat, j ≤ lb ∧ i = .int .i64 j ∧ c = .int .u64 (((mr p k x ys j).2 : Nat) : Int) ∧ Own wr G G (la + lb) (mr p k x ys j).1 ∧ Below G w wr) (fun _ i _ => lb - (intOf i).toNat)
      case atStart => exact ⟨0, Nat.zero_le _, rfl, rfl, hown, hbel⟩
      case round =>
        clear hown hbel hcell hca
        obtain ⟨j, hj, rfl, rfl, hown, hbel⟩ := hrel
        by_cases hlj : j < lb
        · have hcell := (hbel.cell (p := ⟨b2, o2 + j, none⟩) hb2).trans (hcb j hlj)
          obtain ⟨hf1, hf2⟩ := mr_fit (i := k) hfp hx hfy j
          have hold := hown.cell (i := k + j) (by omega)
          have hfree := hown.free (k + j)
          have hstep : mr p k x ys (j + 1) = ((mr p k x ys j).1.set (k + j) ((x * ys.getD j 0 + (mr p k x ys j).1.getD (k + j) 0 + (mr p k x ys j).2) % LimbNum.B), (x * ys.getD j 0 + (mr p k x ys j).1.getD (k + j) 0 + (mr p k x ys j).2) / LimbNum.B) := rfl
          have hbig := muladd_lt hx (hfy.get j) (hf1.get (k + j)) hf2
          have hmul := fun w => mul64_any x (ys.getD j 0) hx (hfy.get j) w
          have hadd1 := run_Add64 (x * ys.getD j 0 % LimbNum.B) ((mr p k x ys j).1.getD (k + j) 0) 0 (by omega)
          have hadd2 := run_Add64 ((x * ys.getD j 0 % LimbNum.B + (mr p k x ys j).1.getD (k + j) 0 + 0) % LimbNum.B) (mr p k x ys j).2 0 (by omega)
          have m0 := Nat.mod_add_div (x * ys.getD j 0) LimbNum.B
          have m1 := Nat.mod_add_div (x * ys.getD j 0 % LimbNum.B + (mr p k x ys j).1.getD (k + j) 0 + 0) LimbNum.B
          have m2 := Nat.mod_add_div ((x * ys.getD j 0 % LimbNum.B + (mr p k x ys j).1.getD (k + j) 0 + 0) % LimbNum.B + (mr p k x ys j).2 + 0) LimbNum.B
          have hl2 : ((x * ys.getD j 0 % LimbNum.B + (mr p k x ys j).1.getD (k + j) 0 + 0) % LimbNum.B + (mr p k x ys j).2 + 0) % LimbNum.B < LimbNum.B := Nat.mod_lt _ B_pos
          have Hstep := Lib.hid hstep
          clear hstep
          generalize hq : mr p k x ys j = q at *
          have Hq := Lib.hid hq
          clear hq
          generalize (x * ys.getD j 0 % LimbNum.B + q.1.getD (k + j) 0 + 0) / LimbNum.B = o1' at *
          generalize ((x * ys.getD j 0 % LimbNum.B + q.1.getD (k + j) 0 + 0) % LimbNum.B + q.2 + 0) / LimbNum.B = o2' at *
          generalize ((x * ys.getD j 0 % LimbNum.B + q.1.getD (k + j) 0 + 0) % LimbNum.B + q.2 + 0) % LimbNum.B = d2 at *
          generalize (x * ys.getD j 0 % LimbNum.B + q.1.getD (k + j) 0 + 0) % LimbNum.B = d1 at *
          generalize x * ys.getD j 0 % LimbNum.B = l at *
          generalize x * ys.getD j 0 / LimbNum.B = h at *
          obtain ⟨p1, p2⟩ := mul_parts (x := x) (y := ys.getD j 0) (p := q.1.getD (k + j) 0) (c := q.2) (h := h) (l := l) (o1 := o1') (o2 := o2') (l1 := d1) (l2 := d2) (by rw [Nat.mul_comm h]; omega) (by omega) (by omega) hl2
          rw [p2] at hbig
          have hbig2 : h + o1' + o2' < 18446744073709551616 := hbig
          have hset := hown.set (k + j) d2
          rw [← p1] at hset
          have hS := hset
          have e1 := Hstep.out
          rw [p2, p1] at e1
          rw [p1] at hS
          have E1 := Lib.hid e1
          have Hmul := Lib.hid hmul
          rw [show ((0 : Nat) : Int) = 0 from rfl] at hadd1 hadd2
          clear m0 m1 m2 hl2 p1 p2 e1 hbig hset hmul hf1 hf2
          generalize ys.getD j 0 = y at *
          generalize q.1.getD (k + j) 0 = z at *
          generalize hc0 : q.2 = c0 at *
          generalize hq0 : q.1 = q1 at *
          clear hc0 hq0
          go_wp2_with (go_at_call 141; refine (Hmul.out _).mono ?_; rintro e w' ⟨rfl, rfl⟩)
          go_roundw
          case rel => exact ⟨j + 1, by omega, by go_num, by rw [E1.out]; go_num, by rw [E1.out]; exact hS, hbel.setCell (Nat.le_refl _) _⟩
          case measure => simp [intOf]; omega
        · obtain rfl : j = lb := by omega
          have hset := hown.set (k + j) (mr p k x ys j).2
          rw [Hend.out] at hset
          have hold := hown.cell (i := k + j) (by omega)
          have hfree := hown.free (k + j)
          have hbel2 := hbel.setCell (Nat.le_refl G) (p := ⟨G, k + j, none⟩) (.int .u64 (((mr p k x ys j).2 : Nat) : Int))
          generalize (mr p k x ys j).1.getD (k + j) 0 = z at *
          generalize (mr p k x ys j).2 = c0 at *
          go_wp2
          go_roundw
          case rel => exact ⟨k + 1, by omega, by go_num, hset, hbel2⟩
          case measure => simp [intOf]; omega
    · obtain rfl : k = la := by omega
      have hrow := hown.row
      have hfp : Fit (mo xs ys k) := mo_fit hfx hfy k
      have ht := trimmed_any G 0 (k + lb) (k + lb) (mo xs ys k) wr hown.1 (by omega) (Nat.le_refl _) (fun i hi => by rw [Nat.zero_add]; exact hown.cell hi)
      have Ht := Lib.hid ht
      clear ht
      go_wp2_with fail
      refine (Ht.out).mono ?_
      rintro e w' ⟨rfl, rfl⟩
      go_wp2
      go_ret
      refine ⟨_, rfl, ?_, by unfold Kept; rw [hG.out]; exact hbel⟩
      rw [← Hall.out]
      exact lim_of_row hrow hfp (by rw [hown.1]; exact Nat.le_refl _)

theorem multiplyLimbs_any (va vb : Value) (x y : Nat) (w : World) (ha : Lim w va x) (hb : Lim w vb y) (hx : size x ≤ 1073741824) (hy : size y ≤ 1073741824) :
    Calls Tryz.prog 108 #[va, vb] w fun e w' => ∃ v, e = .returned v ∧ Lim w' v (x * y) ∧ Kept w w' := by
  obtain ⟨a1, c1, rfl, _, hr1⟩ := ha
  obtain ⟨a2, c2, rfl, _, hr2⟩ := hb
  by_cases h0 : size x = 0 ∨ size y = 0
  · refine (multiplyLimbs_none a1 a2 (size x) (size y) c1 c2 w h0).mono ?_
    rintro e w' ⟨rfl, rfl⟩
    have : x * y = 0 := by rcases h0 with h | h <;> rw [size_eq_zero h] <;> simp
    rw [this]
    exact ⟨_, rfl, Lim.zero_nil _, Below.refl _ _⟩
  · have e := val_limbs x
    have e2 := val_limbs y
    rcases hr1 with ⟨rfl, h1⟩ | ⟨b1, o1, rfl, hb1, hc1⟩
    · exfalso; apply h0; left; unfold size; rw [h1]; rfl
    · rcases hr2 with ⟨rfl, h2⟩ | ⟨b2, o2, rfl, hb2, hc2⟩
      · exfalso; apply h0; right; unfold size; rw [h2]; rfl
      · have := multiplyLimbs_some b1 o1 c1 (size x) b2 o2 c2 (size y) (limbs x) (limbs y) w rfl rfl hx hy (by omega) (by omega) (limbs_fit _) (limbs_fit _) hb1 hb2 hc1 hc2
        rwa [e, e2] at this
end Go.Proofs.YtgjggfpofgfchaaGreatDoor
