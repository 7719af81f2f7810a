/- The plain mathematics of layer 2: points, rows, matrices. -/
import Derived.Test.YtimmbpcoagjcbaaFixedMath
namespace Go.Proofs.Ytimmbpcoagjcbaa

structure V3 where
  x : Int
  y : Int
  z : Int

structure M9 where
  a : V3
  b : V3
  c : V3

structure Mt where
  m : M9
  t : V3

/-- from -l to l -/
def within (n l : Int) : Bool := decide (-l ≤ n ∧ n ≤ l)
def all3 (v : V3) (l : Int) : Bool := within v.x l && within v.y l && within v.z l
def all9 (m : M9) (l : Int) : Bool := all3 m.a l && all3 m.b l && all3 m.c l

theorem within_yes {n l : Int} (h : within n l = true) : -l ≤ n ∧ n ≤ l := by simpa [within] using h
theorem within_mk {n l : Int} (h1 : -l ≤ n) (h2 : n ≤ l) : within n l = true := by simp [within, h1, h2]
theorem within_low {n l : Int} (h1 : n < -l) : within n l = false := by simp [within]; omega
theorem within_high {n l : Int} (h1 : l < n) : within n l = false := by simp [within]; omega
theorem within_or (n l : Int) : (-l ≤ n ∧ n ≤ l ∧ within n l = true) ∨ (n < -l ∧ within n l = false) ∨ (-l ≤ n ∧ l < n ∧ within n l = false) := by
  by_cases h1 : -l ≤ n
  · by_cases h2 : n ≤ l
    · exact .inl ⟨h1, h2, within_mk h1 h2⟩
    · exact .inr (.inr ⟨h1, by omega, within_high (by omega)⟩)
  · exact .inr (.inl ⟨by omega, within_low (by omega)⟩)

def dot (r v : V3) : Int := r.x * v.x + r.y * v.y + r.z * v.z
/-- a row by a point, rounded down -/
def rowBy (r v : V3) : Int := dot r v / 256
def turned (m : M9) (v : V3) : V3 := ⟨rowBy m.a v, rowBy m.b v, rowBy m.c v⟩
def vplus (a b : V3) : V3 := ⟨a.x + b.x, a.y + b.y, a.z + b.z⟩
def moved (m : Mt) (v : V3) : V3 := vplus (turned m.m v) m.t
def flipped (m : M9) : M9 := ⟨⟨m.a.x, m.b.x, m.c.x⟩, ⟨m.a.y, m.b.y, m.c.y⟩, ⟨m.a.z, m.b.z, m.c.z⟩⟩
def rowByAll (r : V3) (m : M9) : V3 := ⟨rowBy r m.a, rowBy r m.b, rowBy r m.c⟩
def product (a b : M9) : M9 := ⟨rowByAll a.a (flipped b), rowByAll a.b (flipped b), rowByAll a.c (flipped b)⟩

def mayM (m : Mt) : Bool := all9 m.m 1024 && all3 m.t 4096
/-- the errors of Check, CheckMat -/
def chkV (v : V3) : Int := if all3 v 4096 = true then 0 else 20
def chkM (m : Mt) : Int := if mayM m = true then 0 else 20
def unitM : Mt := ⟨⟨⟨256, 0, 0⟩, ⟨0, 256, 0⟩, ⟨0, 0, 256⟩⟩, ⟨0, 0, 0⟩⟩
def zeroV : V3 := ⟨0, 0, 0⟩
def zeroM : Mt := ⟨⟨zeroV, zeroV, zeroV⟩, zeroV⟩

def image (m : Mt) (v : V3) : V3 × Int :=
  if mayM m = true then if all3 v 4096 = true then if all3 (moved m v) 4096 = true then (moved m v, 0) else (zeroV, 20) else (zeroV, 20) else (zeroV, 20)
def turn (m : M9) (v : V3) : V3 × Int :=
  if all9 m 1024 = true then if all3 v 32768 = true then (turned m v, 0) else (zeroV, 2) else (zeroV, 2)
def mulM (a b : Mt) : Mt := ⟨product a.m b.m, moved a b.t⟩
def mul (a b : Mt) : Mt × Int :=
  if mayM a = true then if mayM b = true then if mayM (mulM a b) = true then (mulM a b, 0) else (zeroM, 20) else (zeroM, 20) else (zeroM, 20)

theorem all3_mk {v : V3} {l : Int} (h : (-l ≤ v.x ∧ v.x ≤ l) ∧ (-l ≤ v.y ∧ v.y ≤ l) ∧ -l ≤ v.z ∧ v.z ≤ l) : all3 v l = true := by
  simp [all3, within, h]
theorem all3_of {v : V3} {l : Int} (h : all3 v l = true) : (-l ≤ v.x ∧ v.x ≤ l) ∧ (-l ≤ v.y ∧ v.y ≤ l) ∧ -l ≤ v.z ∧ v.z ≤ l := by
  simp [all3, within] at h
  omega
theorem all9_of {m : M9} {l : Int} (h : all9 m l = true) : all3 m.a l = true ∧ all3 m.b l = true ∧ all3 m.c l = true := by
  simp [all9] at h
  exact ⟨h.1.1, h.1.2, h.2⟩
theorem all9_mk {m : M9} {l : Int} (h : all3 m.a l = true ∧ all3 m.b l = true ∧ all3 m.c l = true) : all9 m l = true := by
  simp [all9, h]
theorem all3_mono {v : V3} {l k : Int} (hk : l ≤ k) (h : all3 v l = true) : all3 v k = true := by
  have := all3_of h
  exact all3_mk (by omega)
theorem flip_all {m : M9} {l : Int} (h : all9 m l = true) : all9 (flipped m) l = true := by
  obtain ⟨h1, h2, h3⟩ := all9_of h
  have g1 := all3_of h1
  have g2 := all3_of h2
  have g3 := all3_of h3
  refine all9_mk ⟨all3_mk ?_, all3_mk ?_, all3_mk ?_⟩ <;> simp only [flipped] <;> omega
theorem prod_bd {a b : Int} (h1 : -1024 ≤ a) (h2 : a ≤ 1024) (h3 : -32768 ≤ b) (h4 : b ≤ 32768) : -33554432 ≤ a * b ∧ a * b ≤ 33554432 := by
  have h5 : (a * b).natAbs ≤ 1024 * 32768 := by rw [Int.natAbs_mul]; exact Nat.mul_le_mul (by omega) (by omega)
  omega
theorem prods_bd {r v : V3} (hr : all3 r 1024 = true) (hv : all3 v 32768 = true) :
    (-33554432 ≤ r.x * v.x ∧ r.x * v.x ≤ 33554432) ∧ (-33554432 ≤ r.y * v.y ∧ r.y * v.y ≤ 33554432) ∧ -33554432 ≤ r.z * v.z ∧ r.z * v.z ≤ 33554432 := by
  obtain ⟨⟨a1, a2⟩, ⟨a3, a4⟩, a5, a6⟩ := all3_of hr
  obtain ⟨⟨b1, b2⟩, ⟨b3, b4⟩, b5, b6⟩ := all3_of hv
  exact ⟨prod_bd a1 a2 b1 b2, prod_bd a3 a4 b3 b4, prod_bd a5 a6 b5 b6⟩
theorem rowBy_bd {r v : V3} (hr : all3 r 1024 = true) (hv : all3 v 32768 = true) : -393216 ≤ rowBy r v ∧ rowBy r v ≤ 393216 := by
  have := prods_bd hr hv
  unfold rowBy dot
  omega
theorem turned_bd {m : M9} {v : V3} (hm : all9 m 1024 = true) (hv : all3 v 32768 = true) : all3 (turned m v) 393216 = true := by
  obtain ⟨h1, h2, h3⟩ := all9_of hm
  exact all3_mk ⟨rowBy_bd h1 hv, rowBy_bd h2 hv, rowBy_bd h3 hv⟩
theorem mayM_of {m : Mt} (h : mayM m = true) : all9 m.m 1024 = true ∧ all3 m.t 4096 = true := by simpa [mayM] using h

end Go.Proofs.Ytimmbpcoagjcbaa
