/- Rounding down and spans, in plain numbers: no Go in sight. -/
import Derived.RowKit
namespace Go.Proofs.Ytimmbpcoagjcbaa

theorem tmod_lt {a b : Int} (hb : 1 ≤ b) : a.tmod b < 0 → a.tdiv b - 1 = a / b := by
  intro h
  rw [Int.tmod_eq_emod] at h
  rw [Int.tdiv_eq_ediv]
  have := Int.emod_nonneg a (show b ≠ 0 by omega)
  have h3 : b.natAbs = b := by omega
  split at h <;> rename_i h2
  · omega
  · rw [if_neg h2, show b.sign = 1 from Int.sign_eq_one_of_pos (by omega)]
    omega

theorem tmod_ge {a b : Int} (hb : 1 ≤ b) : 0 ≤ a.tmod b → a.tdiv b = a / b := by
  intro h
  rw [Int.tmod_eq_emod] at h
  rw [Int.tdiv_eq_ediv]
  have h3 : b.natAbs = b := by omega
  have h4 := Int.emod_lt_of_pos a (show 0 < b by omega)
  split at h <;> rename_i h2
  · rw [if_pos h2]; omega
  · omega

/-- rounded up -/
def up (a b : Int) : Int := -((-a) / b)

theorem up_pos {a b : Int} (hb : 1 ≤ b) : 0 < a.tmod b → a.tdiv b + 1 = up a b := by
  intro h
  have h1 := @tmod_lt (-a) b hb (by rw [Int.neg_tmod]; omega)
  rw [Int.neg_tdiv] at h1
  unfold up
  omega

theorem up_neg {a b : Int} (hb : 1 ≤ b) : a.tmod b ≤ 0 → a.tdiv b = up a b := by
  intro h
  have h1 := @tmod_ge (-a) b hb (by rw [Int.neg_tmod]; omega)
  rw [Int.neg_tdiv] at h1
  unfold up
  omega

theorem div_bd {a b : Int} (hb : 1 ≤ b) (l h : Int) (hl : l ≤ a) (hl0 : l ≤ 0) (hh : a ≤ h) (hh0 : 0 ≤ h) : l ≤ a / b ∧ a / b ≤ h := by
  constructor
  · refine (Int.le_ediv_iff_mul_le (by omega)).2 ?_
    have : l * b ≤ l * 1 := Int.mul_le_mul_of_nonpos_left hl0 hb
    omega
  · refine Int.le_of_lt_add_one ((Int.ediv_lt_iff_lt_mul (by omega)).2 ?_)
    have : (h + 1) * 1 ≤ (h + 1) * b := Int.mul_le_mul_of_nonneg_left hb (by omega)
    omega

theorem div_mono {a c b : Int} (hb : 1 ≤ b) (h : a ≤ c) : a / b ≤ c / b := Int.ediv_le_ediv (by omega) h

theorem tdiv_bd {a b : Int} (hb : 1 ≤ b) (ha : -9223372036854775808 ≤ a) (ha2 : a ≤ 9223372036854775807) :
    (a.tmod b < 0 → -9223372036854775808 ≤ a.tdiv b - 1 ∧ a.tdiv b - 1 ≤ 9223372036854775807) ∧ (0 < a.tmod b → -9223372036854775808 ≤ a.tdiv b + 1 ∧ a.tdiv b + 1 ≤ 9223372036854775807) := by
  constructor
  · intro h
    rw [tmod_lt hb h]
    have := div_bd hb _ _ ha (by omega) ha2 (by omega)
    omega
  · intro h
    rw [up_pos hb h]
    unfold up
    by_cases h1 : b = 1
    · subst h1; simp at h
    by_cases h2 : a ≤ 0
    · have := div_bd (a := -a) hb 0 9223372036854775808 (by omega) (by omega) (by omega) (by omega)
      omega
    have h3 : -4611686018427387904 ≤ (-a) / b := by
      refine (Int.le_ediv_iff_mul_le (by omega)).2 ?_
      have : (-4611686018427387904 : Int) * b ≤ -4611686018427387904 * 2 := Int.mul_le_mul_of_nonpos_left (by omega) (by omega)
      omega
    have h4 := div_bd (a := -a) hb (-9223372036854775807) 0 (by omega) (by omega) (by omega) (by omega)
    omega

/-- the greatest number whose multiple is not above -/
theorem down_is {a b : Int} (hb : 1 ≤ b) : a / b * b ≤ a ∧ a - a / b * b < b := by
  have h1 := Int.ediv_mul_add_emod a b
  have h2 := Int.emod_nonneg a (show b ≠ 0 by omega)
  have h3 := Int.emod_lt_of_pos a (show 0 < b by omega)
  omega

theorem up_is {a b : Int} (hb : 1 ≤ b) : a ≤ up a b * b ∧ up a b * b - a < b := by
  have h := @down_is (-a) b hb
  unfold up
  rw [Int.neg_mul]
  omega

def chk (l h : Int) : Int := if -1099511627776 ≤ l ∧ h ≤ 1099511627776 ∧ l ≤ h then 0 else 8

theorem chk_yes {l h : Int} (h1 : -1099511627776 ≤ l) (h2 : h ≤ 1099511627776) (h3 : l ≤ h) : chk l h = 0 := if_pos ⟨h1, h2, h3⟩
theorem chk_no {l h : Int} (h1 : ¬ (-1099511627776 ≤ l ∧ h ≤ 1099511627776 ∧ l ≤ h)) : chk l h = 8 := if_neg h1
theorem chk_or (l h : Int) : chk l h = 0 ∧ (-1099511627776 ≤ l ∧ h ≤ 1099511627776 ∧ l ≤ h) ∨ chk l h = 8 ∧ ¬ (-1099511627776 ≤ l ∧ h ≤ 1099511627776 ∧ l ≤ h) := by
  unfold chk
  split
  · exact .inl ⟨rfl, by assumption⟩
  · exact .inr ⟨rfl, by assumption⟩

/-- what may be, or ErrRange -/
def rng (l h : Int) : Int × Int × Int := if chk l h = 0 then (l, h, 0) else (0, 0, 20)
def add (a b c d : Int) : Int × Int × Int := if chk a b = 0 then if chk c d = 0 then rng (a + c) (b + d) else (0, 0, 8) else (0, 0, 8)
def scale (a b k : Int) : Int × Int × Int := if chk a b = 0 then if -1048576 ≤ k ∧ k ≤ 1048576 then rng (min (k * a) (k * b)) (max (k * a) (k * b)) else (0, 0, 2) else (0, 0, 8)
def quo (a b k : Int) : Int × Int × Int := if chk a b = 0 then if 1 ≤ k ∧ k ≤ 1099511627776 then (a / k, b / k, 0) else (0, 0, 2) else (0, 0, 8)
def join (a b c d : Int) : Int × Int × Int := if chk a b = 0 then if chk c d = 0 then (min a c, max b d, 0) else (0, 0, 8) else (0, 0, 8)

theorem rng_yes {l h : Int} (e : chk l h = 0) : rng l h = (l, h, 0) := if_pos e
theorem rng_no {l h : Int} (e : chk l h = 8) : rng l h = (0, 0, 20) := if_neg (by omega)

theorem mul_bd {k a : Int} (h1 : -1048576 ≤ k) (h2 : k ≤ 1048576) (h3 : -1099511627776 ≤ a) (h4 : a ≤ 1099511627776) : -1152921504606846976 ≤ k * a ∧ k * a ≤ 1152921504606846976 := by
  have h5 : (k * a).natAbs ≤ 1048576 * 1099511627776 := by rw [Int.natAbs_mul]; exact Nat.mul_le_mul (by omega) (by omega)
  omega

/-! The document's own way: the quotient, then the multiple is held against the number. -/
theorem tdiv_mul (a b : Int) : a.tdiv b * b = a - a.tmod b := by
  have := Int.tdiv_mul_add_tmod a b
  omega
theorem tdiv_mul_bd {a b : Int} (hb : 1 ≤ b) (ha : -9223372036854775808 ≤ a) (ha2 : a ≤ 9223372036854775807) : -9223372036854775808 ≤ a.tdiv b * b ∧ a.tdiv b * b ≤ 9223372036854775807 := by
  have e := tdiv_mul a b
  by_cases h : 0 ≤ a
  · have h1 := Int.tmod_nonneg b h
    have h2 := Int.mul_nonneg (Int.tdiv_nonneg h (show 0 ≤ b by omega)) (show 0 ≤ b by omega)
    omega
  · have h1 := Int.tmod_nonneg (a := -a) b (by omega)
    have h2 := Int.mul_nonneg (Int.tdiv_nonneg (show 0 ≤ -a by omega) (show 0 ≤ b by omega)) (show 0 ≤ b by omega)
    rw [Int.neg_tdiv, Int.neg_mul] at h2
    rw [Int.neg_tmod] at h1
    omega

def mayB (l h : Int) : Bool := chk l h == 0
def inB (l h n : Int) : Bool := decide (l ≤ n ∧ n ≤ h)

end Go.Proofs.Ytimmbpcoagjcbaa
