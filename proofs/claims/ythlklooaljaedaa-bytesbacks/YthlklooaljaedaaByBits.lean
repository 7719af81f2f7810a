/- Shifts and bits of signed numbers and of bytes. -/
import Derived.Test.YthlklooaljaedaaByMath
namespace Go.Proofs.Ythlklooaljaedaa
open Go.RowKit

theorem ofInt_i64 {x : Int} (h0 : 0 ≤ x) (h1 : x < 18446744073709551616) : (BitVec.ofInt 64 x).toNat = x.toNat := by
  rw [BitVec.toNat_ofInt]
  omega
theorem xor_zero {x : Int} (h0 : -9223372036854775808 ≤ x) (h1 : x < 9223372036854775808) : bits .xor .i64 x 0 = x := by
  show IntKind.i64.wrap ((BitVec.ofInt 64 x ^^^ BitVec.ofInt 64 0).toNat : Int) = _
  rw [show BitVec.ofInt 64 0 = 0#64 from rfl, BitVec.xor_zero, BitVec.toNat_ofInt, IntKind.wrap_i64]
  omega
theorem xor_ones {x : Int} (h0 : -9223372036854775808 ≤ x) (h1 : x < 9223372036854775808) : bits .xor .i64 x (-1) = -1 - x := by
  show IntKind.i64.wrap ((BitVec.ofInt 64 x ^^^ BitVec.ofInt 64 (-1)).toNat : Int) = _
  rw [show BitVec.ofInt 64 (-1) = BitVec.allOnes 64 from rfl, BitVec.xor_allOnes, BitVec.toNat_not, BitVec.toNat_ofInt, IntKind.wrap_i64]
  omega
theorem u8_low {b : Int} (h0 : 0 ≤ b) (h1 : b < 256) : bits .andNot .u8 b 128 = b % 128 := by
  rw [u8_andNot b 128 h0 h1 (by decide) (by decide)]
  show ((b.toNat &&& 127 : Nat) : Int) = _
  rw [nat_mask7]
  omega
theorem u8_top {b : Int} (h0 : 0 ≤ b) (h1 : b < 256) : bits .and .u8 b 128 = b / 128 * 128 := by
  rw [u8_and b 128 h0 h1 (by decide) (by decide)]
  have := nat_bit 7 b.toNat
  show ((b.toNat &&& 2 ^ 7 : Nat) : Int) = _
  rw [this]
  omega
theorem u8_more {r : Nat} : bits .or .u8 ((r : Int) % 256) 128 = ((r % 128 + 128 : Nat) : Int) := by
  have e : ((r : Int) % 256) = ((r % 256 : Nat) : Int) := by omega
  rw [e]
  have h := u8_or_nat (r % 256) 128 (by omega) (by decide)
  rw [show ((128 : Nat) : Int) = 128 from rfl] at h
  rw [h]
  have e2 : r % 256 ||| 128 = r % 128 ||| 128 := by
    by_cases h2 : r % 256 < 128
    · rw [show r % 256 = r % 128 by omega]
    · have e3 : r % 256 = 128 ||| r % 128 := by rw [nat_join 7 128 (r % 128) (by decide) (by omega)]; omega
      rw [e3, Nat.or_assoc, Nat.or_comm (r % 128) 128, ← Nat.or_assoc, Nat.or_self, Nat.or_comm]
  rw [e2, Nat.or_comm, nat_join 7 128 (r % 128) (by decide) (by omega), Nat.add_comm]
theorem i64_and1 {r : Nat} (h : r < 9223372036854775808) : bits .and .i64 (r : Int) 1 = ((r % 2 : Nat) : Int) := by
  show IntKind.i64.wrap ((BitVec.ofInt 64 (r : Int) &&& BitVec.ofInt 64 1).toNat : Int) = _
  rw [BitVec.toNat_and, ofInt_i64 (by omega) (by omega), show (BitVec.ofInt 64 1).toNat = 1 from rfl, Int.toNat_natCast, nat_mask1, IntKind.wrap_i64]
  omega
theorem i64_or {x i m : Nat} (hx : x < 128 ^ i) (hm : m < 128) (hi : i ≤ 5) : bits .or .i64 (x : Int) ((m * 128 ^ i : Nat) : Int) = ((x + m * 128 ^ i : Nat) : Int) := by
  have e : (128 : Nat) ^ i = 2 ^ (7 * i) := by rw [Nat.pow_mul]
  have hb : (128 : Nat) ^ i ≤ 128 ^ 5 := Nat.pow_le_pow_right (by decide) hi
  have hmm : m * 128 ^ i ≤ 127 * 128 ^ i := Nat.mul_le_mul_right _ (by omega)
  show IntKind.i64.wrap ((BitVec.ofInt 64 (x : Int) ||| BitVec.ofInt 64 ((m * 128 ^ i : Nat) : Int)).toNat : Int) = _
  rw [BitVec.toNat_or, ofInt_i64 (by omega) (by omega), ofInt_i64 (by omega) (by omega), Int.toNat_natCast, Int.toNat_natCast]
  rw [Nat.or_comm, nat_join (7 * i) (m * 128 ^ i) x (by rw [e]; exact Nat.mul_mod_left _ _) (by rw [← e]; exact hx), IntKind.wrap_i64]
  omega
theorem wrap64_of {x : Int} (h0 : -9223372036854775808 ≤ x) (h1 : x < 9223372036854775808) : wrap64 x = x := by
  unfold wrap64
  omega
theorem rk_pos {n : Int} (h : 0 ≤ n) : ((rk n : Nat) : Int) = 2 * n := by
  unfold rk
  rw [if_pos h]
  omega
theorem rk_neg {n : Int} (h : ¬ 0 ≤ n) : ((rk n : Nat) : Int) = -1 - 2 * n := by
  unfold rk
  rw [if_neg h]
  omega
theorem rk_bits {n : Int} (h0 : -1099511627776 ≤ n) (h1 : n ≤ 1099511627776) : bits .xor .i64 (n * 2) (n / 9223372036854775808) = ((rk n : Nat) : Int) := by
  by_cases h : 0 ≤ n
  · rw [rk_pos h, show n / 9223372036854775808 = 0 by omega, xor_zero (by omega) (by omega)]
    omega
  · rw [rk_neg h, show n / 9223372036854775808 = -1 by omega, xor_ones (by omega) (by omega)]
    omega
theorem un_bits {r : Nat} (h : r < 4398046511104) : bits .xor .i64 ((r : Int) / 2) (wrap64 (-bits .and .i64 (r : Int) 1)) = un r := by
  rw [i64_and1 (by omega)]
  unfold un
  by_cases h2 : r % 2 = 1
  · rw [if_pos h2, h2, show wrap64 (-((1 : Nat) : Int)) = -1 by decide +kernel, xor_ones (by omega) (by omega)]
    omega
  · rw [if_neg h2, show r % 2 = 0 by omega, show wrap64 (-((0 : Nat) : Int)) = 0 by decide +kernel, xor_zero (by omega) (by omega)]
    omega
theorem pow_seven (i : Nat) : (2 : Int) ^ (i * 7) = ((128 ^ i : Nat) : Int) := by
  rw [Nat.mul_comm, Int.pow_mul]
  simp
theorem drop_nth {l : List Int} {k : Nat} (h : k < l.length) : l.drop k = nth 0 l k :: l.drop (k + 1) := by
  rw [nth_eq h, List.drop_eq_getElem_cons h]
/-- What the walk shall not use. -/
structure Hush (p : Prop) : Prop where
  it : p
/-- A byte more is read: what becomes of the rank. -/
theorem read_step {x i : Nat} {b : Int} (hx : x < 128 ^ i) (hi : i ≤ 5) (h0 : 0 ≤ b) (h1 : b < 256) : ∃ m s z : Nat, z = x + b.toNat % 128 * 128 ^ i ∧ z < 128 ^ (i + 1) ∧ z < 4398046511104 ∧ bits .andNot .u8 b 128 = (m : Int) ∧ wrap64 (m : Int) = (m : Int) ∧ wrap64 ((m : Int) * 2 ^ (i * 7)) = (s : Int) ∧ bits .or .i64 (x : Int) (s : Int) = (z : Int) := by
  have hp : (128 : Nat) ^ i ≤ 128 ^ 5 := Nat.pow_le_pow_right (by decide) hi
  have hsl : b.toNat % 128 * 128 ^ i ≤ 127 * 128 ^ i := Nat.mul_le_mul_right _ (by omega)
  have e5 : (128 : Nat) ^ 5 = 34359738368 := by decide
  have hor := i64_or hx (m := b.toNat % 128) (by omega) hi
  have e7 := pow_seven i
  have ep : (128 : Nat) ^ (i + 1) = 128 ^ i * 128 := Nat.pow_succ ..
  refine ⟨b.toNat % 128, b.toNat % 128 * 128 ^ i, _, rfl, ?_, ?_, ?_, ?_, ?_, hor⟩
  · omega
  · omega
  · rw [u8_low h0 h1]; omega
  · exact wrap64_of (by omega) (by omega)
  · rw [e7, ← Int.natCast_mul]
    exact wrap64_of (by omega) (by omega)
theorem read_step2 {x i u : Nat} {b : Int} (hx : x < 128 ^ i) (hi : i ≤ 5) (h0 : 0 ≤ b) (h1 : b < 256) (hu : u = 128 ^ i) : ∃ s z : Nat, z = x + b.toNat % 128 * 128 ^ i ∧ z < 128 ^ (i + 1) ∧ z < 4398046511104 ∧ wrap64 (b % 128 * (u : Int)) = (s : Int) ∧ (x : Int) + (s : Int) = (z : Int) ∧ wrap64 ((u : Int) * 128) = (u : Int) * 128 := by
  have hp : (128 : Nat) ^ i ≤ 128 ^ 5 := Nat.pow_le_pow_right (by decide) hi
  have hsl : b.toNat % 128 * 128 ^ i ≤ 127 * 128 ^ i := Nat.mul_le_mul_right _ (by omega)
  have e5 : (128 : Nat) ^ 5 = 34359738368 := by decide
  have ep : (128 : Nat) ^ (i + 1) = 128 ^ i * 128 := Nat.pow_succ ..
  subst hu
  refine ⟨b.toNat % 128 * 128 ^ i, _, rfl, ?_, ?_, ?_, ?_, ?_⟩
  · omega
  · omega
  · rw [show b % 128 = ((b.toNat % 128 : Nat) : Int) by omega, ← Int.natCast_mul]
    exact wrap64_of (by omega) (by omega)
  · rw [← Int.natCast_add]
  · exact wrap64_of (by omega) (by omega)
end Go.Proofs.Ythlklooaljaedaa
