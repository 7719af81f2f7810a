/- The plain mathematics of layer 3: boxes; what is in a box is, turned, in the turned box; a turned box is the least one of the eight corners, turned; the least box of points. -/
import Derived.Test.YtondjoilcpcneaaVecMath
namespace Go.Proofs.Ytondjoilcpcneaa

structure B6 where
  lo : V3
  hi : V3

/-- no number of a is above b's -/
def vle (a b : V3) : Bool := decide (a.x ≤ b.x ∧ a.y ≤ b.y ∧ a.z ≤ b.z)
def mayBx (b : B6) : Bool := all3 b.lo 32768 && all3 b.hi 32768 && vle b.lo b.hi
def holdsBx (b : B6) (v : V3) : Bool := vle b.lo v && vle v b.hi
def insideBx (a b : B6) : Bool := vle b.lo a.lo && vle a.hi b.hi
def vmin (a b : V3) : V3 := ⟨min a.x b.x, min a.y b.y, min a.z b.z⟩
def vmax (a b : V3) : V3 := ⟨max a.x b.x, max a.y b.y, max a.z b.z⟩
def joinBx (a b : B6) : B6 := ⟨vmin a.lo b.lo, vmax a.hi b.hi⟩
/-- the least, the greatest sum of a row by a box' points -/
def sumLo (r : V3) (b : B6) : Int := min (r.x * b.lo.x) (r.x * b.hi.x) + min (r.y * b.lo.y) (r.y * b.hi.y) + min (r.z * b.lo.z) (r.z * b.hi.z)
def sumHi (r : V3) (b : B6) : Int := max (r.x * b.lo.x) (r.x * b.hi.x) + max (r.y * b.lo.y) (r.y * b.hi.y) + max (r.z * b.lo.z) (r.z * b.hi.z)
def turnedBx (m : M9) (b : B6) : B6 := ⟨⟨sumLo m.a b / 256, sumLo m.b b / 256, sumLo m.c b / 256⟩, ⟨sumHi m.a b / 256, sumHi m.b b / 256, sumHi m.c b / 256⟩⟩
def zeroBx : B6 := ⟨zeroV, zeroV⟩
/-- the least box of points, the first one told apart -/
def leastBx (v : V3) (l : List V3) : B6 := l.foldl (fun b u => ⟨vmin b.lo u, vmax b.hi u⟩) ⟨v, v⟩

theorem vle_of {a b : V3} (h : vle a b = true) : a.x ≤ b.x ∧ a.y ≤ b.y ∧ a.z ≤ b.z := by simpa [vle] using h
theorem vle_mk {a b : V3} (h : a.x ≤ b.x ∧ a.y ≤ b.y ∧ a.z ≤ b.z) : vle a b = true := by simpa [vle] using h
theorem vle_refl (a : V3) : vle a a = true := vle_mk ⟨Int.le_refl _, Int.le_refl _, Int.le_refl _⟩
theorem vle_trans {a b c : V3} (h1 : vle a b = true) (h2 : vle b c = true) : vle a c = true := by
  have := vle_of h1
  have := vle_of h2
  exact vle_mk (by omega)
theorem mayBx_of {b : B6} (h : mayBx b = true) : all3 b.lo 32768 = true ∧ all3 b.hi 32768 = true ∧ vle b.lo b.hi = true := by
  simp [mayBx] at h
  exact ⟨h.1.1, h.1.2, h.2⟩
theorem holdsBx_of {b : B6} {v : V3} (h : holdsBx b v = true) : vle b.lo v = true ∧ vle v b.hi = true := by simpa [holdsBx] using h
theorem holdsBx_mk {b : B6} {v : V3} (h : vle b.lo v = true ∧ vle v b.hi = true) : holdsBx b v = true := by simpa [holdsBx] using h
theorem insideBx_of {a b : B6} (h : insideBx a b = true) : vle b.lo a.lo = true ∧ vle a.hi b.hi = true := by simpa [insideBx] using h
theorem insideBx_mk {a b : B6} (h : vle b.lo a.lo = true ∧ vle a.hi b.hi = true) : insideBx a b = true := by simpa [insideBx] using h

/-- A multiple of what lies between lies between the multiples. -/
theorem mul_between {k l h x : Int} (h1 : l ≤ x) (h2 : x ≤ h) : min (k * l) (k * h) ≤ k * x ∧ k * x ≤ max (k * l) (k * h) := by
  by_cases hk : 0 ≤ k
  · have e1 := Int.mul_le_mul_of_nonneg_left h1 hk
    have e2 := Int.mul_le_mul_of_nonneg_left h2 hk
    omega
  · have e1 := Int.mul_le_mul_of_nonpos_left (a := k) (by omega) h1
    have e2 := Int.mul_le_mul_of_nonpos_left (a := k) (by omega) h2
    omega

theorem row_in {r v : V3} {b : B6} (h : holdsBx b v = true) : sumLo r b / 256 ≤ rowBy r v ∧ rowBy r v ≤ sumHi r b / 256 := by
  obtain ⟨h1, h2⟩ := holdsBx_of h
  obtain ⟨a1, a2, a3⟩ := vle_of h1
  obtain ⟨b1, b2, b3⟩ := vle_of h2
  have e1 := mul_between (k := r.x) a1 b1
  have e2 := mul_between (k := r.y) a2 b2
  have e3 := mul_between (k := r.z) a3 b3
  unfold sumLo sumHi rowBy dot
  omega

/-- What is in a box is, turned, in the turned box. -/
theorem holds_turned {m : M9} {v : V3} {b : B6} (h : holdsBx b v = true) : holdsBx (turnedBx m b) (turned m v) = true :=
  holdsBx_mk ⟨vle_mk ⟨(row_in h).1, (row_in h).1, (row_in h).1⟩, vle_mk ⟨(row_in h).2, (row_in h).2, (row_in h).2⟩⟩

theorem sum_inside {r : V3} {a b : B6} (ha : vle a.lo a.hi = true) (h : insideBx a b = true) : sumLo r b / 256 ≤ sumLo r a / 256 ∧ sumHi r a / 256 ≤ sumHi r b / 256 := by
  obtain ⟨h1, h2⟩ := insideBx_of h
  obtain ⟨a1, a2, a3⟩ := vle_of h1
  obtain ⟨b1, b2, b3⟩ := vle_of h2
  obtain ⟨c1, c2, c3⟩ := vle_of ha
  have e1 := mul_between (k := r.x) a1 (Int.le_trans c1 b1)
  have e2 := mul_between (k := r.y) a2 (Int.le_trans c2 b2)
  have e3 := mul_between (k := r.z) a3 (Int.le_trans c3 b3)
  have f1 := mul_between (k := r.x) (Int.le_trans a1 c1) b1
  have f2 := mul_between (k := r.y) (Int.le_trans a2 c2) b2
  have f3 := mul_between (k := r.z) (Int.le_trans a3 c3) b3
  unfold sumLo sumHi
  omega

/-- A box that lies in another one has its turned one in the other one's. -/
theorem inside_turned {m : M9} {a b : B6} (ha : vle a.lo a.hi = true) (h : insideBx a b = true) : insideBx (turnedBx m a) (turnedBx m b) = true :=
  insideBx_mk ⟨vle_mk ⟨(sum_inside ha h).1, (sum_inside ha h).1, (sum_inside ha h).1⟩, vle_mk ⟨(sum_inside ha h).2, (sum_inside ha h).2, (sum_inside ha h).2⟩⟩

theorem min8 (R d0 d1 d2 d3 d4 d5 d6 d7 : Int) (h0 : R ≤ d0) (h1 : R ≤ d1) (h2 : R ≤ d2) (h3 : R ≤ d3) (h4 : R ≤ d4) (h5 : R ≤ d5) (h6 : R ≤ d6) (h7 : R ≤ d7) (h : R = d0 ∨ R = d1 ∨ R = d2 ∨ R = d3 ∨ R = d4 ∨ R = d5 ∨ R = d6 ∨ R = d7) : min (min (min (min (min (min (min d0 d1) d2) d3) d4) d5) d6) d7 = R :=
  Int.le_antisymm (by rcases h with h | h | h | h | h | h | h | h <;> omega) (Int.le_min.2 ⟨(Int.le_min.2 ⟨(Int.le_min.2 ⟨(Int.le_min.2 ⟨(Int.le_min.2 ⟨(Int.le_min.2 ⟨(Int.le_min.2 ⟨h0, h1⟩), h2⟩), h3⟩), h4⟩), h5⟩), h6⟩), h7⟩)
theorem max8 (R d0 d1 d2 d3 d4 d5 d6 d7 : Int) (h0 : d0 ≤ R) (h1 : d1 ≤ R) (h2 : d2 ≤ R) (h3 : d3 ≤ R) (h4 : d4 ≤ R) (h5 : d5 ≤ R) (h6 : d6 ≤ R) (h7 : d7 ≤ R) (h : R = d0 ∨ R = d1 ∨ R = d2 ∨ R = d3 ∨ R = d4 ∨ R = d5 ∨ R = d6 ∨ R = d7) : max (max (max (max (max (max (max d0 d1) d2) d3) d4) d5) d6) d7 = R :=
  Int.le_antisymm (Int.max_le.2 ⟨(Int.max_le.2 ⟨(Int.max_le.2 ⟨(Int.max_le.2 ⟨(Int.max_le.2 ⟨(Int.max_le.2 ⟨(Int.max_le.2 ⟨h0, h1⟩), h2⟩), h3⟩), h4⟩), h5⟩), h6⟩), h7⟩) (by rcases h with h | h | h | h | h | h | h | h <;> omega)

theorem pick (p0 p1 : Int) : min p0 p1 = p0 ∨ min p0 p1 = p1 := by omega
theorem pick2 (p0 p1 : Int) : max p0 p1 = p0 ∨ max p0 p1 = p1 := by omega
theorem eight_or (p0 p1 q0 q1 s0 s1 P Q S : Int) (hp : P = p0 ∨ P = p1) (hq : Q = q0 ∨ Q = q1) (hs : S = s0 ∨ S = s1) :
    (P + Q + S) / 256 = (p0 + q0 + s0) / 256 ∨ (P + Q + S) / 256 = (p1 + q0 + s0) / 256 ∨ (P + Q + S) / 256 = (p0 + q1 + s0) / 256 ∨ (P + Q + S) / 256 = (p1 + q1 + s0) / 256 ∨ (P + Q + S) / 256 = (p0 + q0 + s1) / 256 ∨ (P + Q + S) / 256 = (p1 + q0 + s1) / 256 ∨ (P + Q + S) / 256 = (p0 + q1 + s1) / 256 ∨ (P + Q + S) / 256 = (p1 + q1 + s1) / 256 := by
  rcases hp with rfl | rfl <;> rcases hq with rfl | rfl <;> rcases hs with rfl | rfl <;> simp

/-- of the eight sums the least one, rounded down, is the least of those that are rounded down; the greatest likewise -/
theorem eight_lo (p0 p1 q0 q1 s0 s1 : Int) :
    min (min (min (min (min (min (min ((p0 + q0 + s0) / 256) ((p1 + q0 + s0) / 256)) ((p0 + q1 + s0) / 256)) ((p1 + q1 + s0) / 256)) ((p0 + q0 + s1) / 256)) ((p1 + q0 + s1) / 256)) ((p0 + q1 + s1) / 256)) ((p1 + q1 + s1) / 256) = (min p0 p1 + min q0 q1 + min s0 s1) / 256 :=
  min8 _ _ _ _ _ _ _ _ _ (Int.ediv_le_ediv (by decide) (by omega)) (Int.ediv_le_ediv (by decide) (by omega)) (Int.ediv_le_ediv (by decide) (by omega)) (Int.ediv_le_ediv (by decide) (by omega)) (Int.ediv_le_ediv (by decide) (by omega)) (Int.ediv_le_ediv (by decide) (by omega)) (Int.ediv_le_ediv (by decide) (by omega)) (Int.ediv_le_ediv (by decide) (by omega)) (eight_or _ _ _ _ _ _ _ _ _ (pick p0 p1) (pick q0 q1) (pick s0 s1))
theorem eight_hi (p0 p1 q0 q1 s0 s1 : Int) :
    max (max (max (max (max (max (max ((p0 + q0 + s0) / 256) ((p1 + q0 + s0) / 256)) ((p0 + q1 + s0) / 256)) ((p1 + q1 + s0) / 256)) ((p0 + q0 + s1) / 256)) ((p1 + q0 + s1) / 256)) ((p0 + q1 + s1) / 256)) ((p1 + q1 + s1) / 256) = (max p0 p1 + max q0 q1 + max s0 s1) / 256 :=
  max8 _ _ _ _ _ _ _ _ _ (Int.ediv_le_ediv (by decide) (by omega)) (Int.ediv_le_ediv (by decide) (by omega)) (Int.ediv_le_ediv (by decide) (by omega)) (Int.ediv_le_ediv (by decide) (by omega)) (Int.ediv_le_ediv (by decide) (by omega)) (Int.ediv_le_ediv (by decide) (by omega)) (Int.ediv_le_ediv (by decide) (by omega)) (Int.ediv_le_ediv (by decide) (by omega)) (eight_or _ _ _ _ _ _ _ _ _ (pick2 p0 p1) (pick2 q0 q1) (pick2 s0 s1))

/-- the corners behind the first one (Low): which bit takes which number from High -/
def corners (b : B6) : List V3 :=
  [⟨b.hi.x, b.lo.y, b.lo.z⟩, ⟨b.lo.x, b.hi.y, b.lo.z⟩, ⟨b.hi.x, b.hi.y, b.lo.z⟩, ⟨b.lo.x, b.lo.y, b.hi.z⟩, ⟨b.hi.x, b.lo.y, b.hi.z⟩, ⟨b.lo.x, b.hi.y, b.hi.z⟩, ⟨b.hi.x, b.hi.y, b.hi.z⟩]

/-- A turned box is the least one of the eight corners, turned. -/
theorem turned_corners (m : M9) (b : B6) : leastBx (turned m b.lo) ((corners b).map (turned m)) = turnedBx m b := by
  simp only [leastBx, corners, List.map_cons, List.map_nil, List.foldl_cons, List.foldl_nil, vmin, vmax, turned, rowBy, dot, turnedBx, sumLo, sumHi, eight_lo, eight_hi]

theorem vmin_le (a b : V3) : vle (vmin a b) a = true ∧ vle (vmin a b) b = true :=
  ⟨vle_mk ⟨Int.min_le_left _ _, Int.min_le_left _ _, Int.min_le_left _ _⟩, vle_mk ⟨Int.min_le_right _ _, Int.min_le_right _ _, Int.min_le_right _ _⟩⟩
theorem le_vmax (a b : V3) : vle a (vmax a b) = true ∧ vle b (vmax a b) = true :=
  ⟨vle_mk ⟨Int.le_max_left _ _, Int.le_max_left _ _, Int.le_max_left _ _⟩, vle_mk ⟨Int.le_max_right _ _, Int.le_max_right _ _, Int.le_max_right _ _⟩⟩
theorem le_vmin {a b c : V3} (h1 : vle c a = true) (h2 : vle c b = true) : vle c (vmin a b) = true := by
  have := vle_of h1
  have := vle_of h2
  exact vle_mk (by simp only [vmin]; omega)
theorem vmax_le {a b c : V3} (h1 : vle a c = true) (h2 : vle b c = true) : vle (vmax a b) c = true := by
  have := vle_of h1
  have := vle_of h2
  exact vle_mk (by simp only [vmax]; omega)

theorem fold_holds (l : List V3) : ∀ b : B6, vle (l.foldl (fun b u => (⟨vmin b.lo u, vmax b.hi u⟩ : B6)) b).lo b.lo = true ∧ vle b.hi (l.foldl (fun b u => (⟨vmin b.lo u, vmax b.hi u⟩ : B6)) b).hi = true ∧
    ∀ v ∈ l, holdsBx (l.foldl (fun b u => (⟨vmin b.lo u, vmax b.hi u⟩ : B6)) b) v = true := by
  induction l with
  | nil => exact fun b => ⟨vle_refl _, vle_refl _, fun v h => by cases h⟩
  | cons u l ih =>
    intro b
    obtain ⟨h1, h2, h3⟩ := ih ⟨vmin b.lo u, vmax b.hi u⟩
    refine ⟨vle_trans h1 (vmin_le _ _).1, vle_trans (le_vmax _ _).1 h2, fun v hv => ?_⟩
    rcases List.mem_cons.1 hv with e | hv
    · rw [e]
      exact holdsBx_mk ⟨vle_trans h1 (vmin_le _ _).2, vle_trans (le_vmax _ _).2 h2⟩
    · exact h3 v hv

/-- The least box of points holds each of them .. -/
theorem least_holds (u : V3) (l : List V3) : ∀ v ∈ u :: l, holdsBx (leastBx u l) v = true := by
  obtain ⟨h1, h2, h3⟩ := fold_holds l ⟨u, u⟩
  intro v hv
  rcases List.mem_cons.1 hv with e | hv
  · rw [e]; exact holdsBx_mk ⟨h1, h2⟩
  · exact h3 v hv

theorem fold_inside (l : List V3) (a : B6) (hl : ∀ v ∈ l, holdsBx a v = true) : ∀ b : B6, insideBx b a = true → insideBx (l.foldl (fun b u => (⟨vmin b.lo u, vmax b.hi u⟩ : B6)) b) a = true := by
  induction l with
  | nil => exact fun b h => h
  | cons u l ih =>
    intro b hb
    obtain ⟨h1, h2⟩ := insideBx_of hb
    obtain ⟨h3, h4⟩ := holdsBx_of (hl u List.mem_cons_self)
    exact ih (fun v hv => hl v (List.mem_cons_of_mem _ hv)) _ (insideBx_mk ⟨le_vmin h1 h3, vmax_le h2 h4⟩)

/-- .. and lies in each box that does. -/
theorem least_inside (u : V3) (l : List V3) (a : B6) (h : ∀ v ∈ u :: l, holdsBx a v = true) : insideBx (leastBx u l) a = true :=
  fold_inside l a (fun v hv => h v (List.mem_cons_of_mem _ hv)) _ (insideBx_mk (holdsBx_of (h u List.mem_cons_self)))

theorem join_holds {a b : B6} {v : V3} (h : holdsBx a v = true ∨ holdsBx b v = true) : holdsBx (joinBx a b) v = true := by
  rcases h with h | h <;> obtain ⟨h1, h2⟩ := holdsBx_of h
  · exact holdsBx_mk ⟨vle_trans (vmin_le _ _).1 h1, vle_trans h2 (le_vmax _ _).1⟩
  · exact holdsBx_mk ⟨vle_trans (vmin_le _ _).2 h1, vle_trans h2 (le_vmax _ _).2⟩
theorem join_has (a b : B6) : insideBx a (joinBx a b) = true ∧ insideBx b (joinBx a b) = true :=
  ⟨insideBx_mk ⟨(vmin_le _ _).1, (le_vmax _ _).1⟩, insideBx_mk ⟨(vmin_le _ _).2, (le_vmax _ _).2⟩⟩
theorem join_inside {a b c : B6} (h1 : insideBx a c = true) (h2 : insideBx b c = true) : insideBx (joinBx a b) c = true := by
  obtain ⟨a1, a2⟩ := insideBx_of h1
  obtain ⟨b1, b2⟩ := insideBx_of h2
  exact insideBx_mk ⟨le_vmin a1 b1, vmax_le a2 b2⟩

end Go.Proofs.Ytondjoilcpcneaa
