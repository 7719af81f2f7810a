/- Whose value a thing has, behind styles one under the other (the plain mathematics of P7.4). -/
import Derived.Test.YthcplebmffbmpaaStAlong
namespace Go.Proofs.Ythcplebmffbmpaa

/-- whose value a thing has behind the first n that say f (-1: the beginning's), and whether it is kept -/
def win (f : Nat → Int) : Nat → Int × Bool
  | 0 => (-1, false)
  | n + 1 => if takes (f n) (win f n).2 then (n, overs (f n)) else win f n

def Said (f : Nat → Int) (n : Nat) : Prop := ∀ j, j < n → f j = 0 ∨ f j = 1 ∨ f j = 3 ∨ f j = 5 ∨ f j = 7

theorem win_take {f : Nat → Int} {n : Nat} (h : takes (f n) (win f n).2 = true) : win f (n + 1) = ((n : Int), overs (f n)) := by rw [win, if_pos h]
theorem win_leave {f : Nat → Int} {n : Nat} (h : takes (f n) (win f n).2 = false) : win f (n + 1) = win f n := by rw [win, h]; rfl

theorem win_free {f : Nat → Int} {q : Nat} (h : 4 ≤ f q) : win f (q + 1) = ((q : Int), overs (f q)) := by
  apply win_take
  have h0 : ¬ f q = 0 := by omega
  simp [takes, h, h0]

theorem win_kept {f : Nat → Int} {m : Nat} (hk : (win f m).2 = true) : ∀ d, (∀ j, m ≤ j → j < m + d → f j < 4) → win f (m + d) = win f m
  | 0, _ => rfl
  | d + 1, h => by
    have ih := win_kept hk d (fun j h1 h2 => h j h1 (by omega))
    have hf := h (m + d) (by omega) (by omega)
    show win f (m + d + 1) = _
    rw [win_leave (by rw [ih, hk]; have h4 : ¬ 4 ≤ f (m + d) := by omega
                      simp [takes, h4]), ih]

theorem win_nothing {f : Nat → Int} {m : Nat} : ∀ d, (∀ j, m ≤ j → j < m + d → f j = 0) → win f (m + d) = win f m
  | 0, _ => rfl
  | d + 1, h => by
    have ih := win_nothing d (fun j h1 h2 => h j h1 (by omega))
    show win f (m + d + 1) = _
    rw [win_leave (by simp [takes, h (m + d) (by omega) (by omega)]), ih]

theorem win_loose {f : Nat → Int} {m : Nat} (hk : (win f m).2 = false) : ∀ d, (∀ j, m ≤ j → j < m + d → f j = 0 ∨ f j = 1) → (win f (m + d)).2 = false
  | 0, _ => hk
  | d + 1, h => by
    have ih := win_loose hk d (fun j h1 h2 => h j h1 (by omega))
    show (win f (m + d + 1)).2 = false
    rcases h (m + d) (by omega) (by omega) with h0 | h1
    · rw [win_leave (by simp [takes, h0])]; exact ih
    · rw [win_take (by simp [takes, h1, ih]), h1]; rfl

/-- the last of the first n that is free: fr (-1: none); st: what comes behind it -/
structure Free (f : Nat → Int) (n : Nat) (fr : Int) (st : Nat) : Prop where
  eq : (st : Int) = fr + 1
  le : st ≤ n
  free : 0 ≤ fr → 4 ≤ f (st - 1)
  behind : ∀ j, st ≤ j → j < n → f j < 4
theorem free_nil (f : Nat → Int) : Free f 0 (-1) 0 := ⟨rfl, Nat.le_refl _, fun h => by omega, fun j _ h => by omega⟩
theorem Free.take {f : Nat → Int} {n : Nat} {fr : Int} {st : Nat} (_h : Free f n fr st) (hf : 4 ≤ f n) : Free f (n + 1) n (n + 1) :=
  ⟨by omega, by omega, fun _ => by simpa using hf, fun j h1 h2 => by omega⟩
theorem Free.leave {f : Nat → Int} {n : Nat} {fr : Int} {st : Nat} (h : Free f n fr st) (hf : f n < 4) : Free f (n + 1) fr st :=
  ⟨h.eq, by have := h.le; omega, h.free, fun j h1 h2 => by
    by_cases e : j = n
    · rw [e]; exact hf
    · exact h.behind j h1 (by omega)⟩

/-- what has been seen from st up to k: no 3; la: the last that says something (fr: none) -/
structure Last (f : Nat → Int) (fr : Int) (st k : Nat) (la : Int) : Prop where
  ge : st ≤ k
  no3 : ∀ j, st ≤ j → j < k → f j ≠ 3
  what : (la = fr ∧ ∀ j, st ≤ j → j < k → ¬ 0 < f j) ∨ ∃ p : Nat, la = p ∧ st ≤ p ∧ p < k ∧ 0 < f p ∧ ∀ j, p < j → j < k → ¬ 0 < f j
theorem last_nil (f : Nat → Int) (fr : Int) (st : Nat) : Last f fr st st fr := ⟨Nat.le_refl _, fun j h1 h2 => by omega, .inl ⟨rfl, fun j h1 h2 => by omega⟩⟩
theorem Last.no3' {f : Nat → Int} {fr : Int} {st k : Nat} {la : Int} (h : Last f fr st k la) (h3 : f k ≠ 3) : ∀ j, st ≤ j → j < k + 1 → f j ≠ 3 := fun j h1 h2 => by
  by_cases e : j = k
  · rw [e]; exact h3
  · exact h.no3 j h1 (by omega)
theorem Last.take {f : Nat → Int} {fr : Int} {st k : Nat} {la : Int} (h : Last f fr st k la) (h3 : f k ≠ 3) (h0 : 0 < f k) : Last f fr st (k + 1) k :=
  ⟨by have := h.ge; omega, h.no3' h3, .inr ⟨k, rfl, h.ge, by omega, h0, fun j h1 h2 => by omega⟩⟩
theorem Last.leave {f : Nat → Int} {fr : Int} {st k : Nat} {la : Int} (h : Last f fr st k la) (h3 : f k ≠ 3) (h0 : ¬ 0 < f k) : Last f fr st (k + 1) la := by
  refine ⟨by have := h.ge; omega, h.no3' h3, ?_⟩
  rcases h.what with ⟨e, hj⟩ | ⟨p, e, h1, h2, hp, hj⟩
  · refine .inl ⟨e, fun j a b => ?_⟩
    by_cases q : j = k
    · rw [q]; exact h0
    · exact hj j a (by omega)
  · refine .inr ⟨p, e, h1, by omega, hp, fun j a b => ?_⟩
    by_cases q : j = k
    · rw [q]; exact h0
    · exact hj j a (by omega)

theorem win_over {f : Nat → Int} {n st : Nat} {fr : Int} (h : Free f n fr st) (h0 : 0 ≤ fr) (h7 : f (st - 1) = 7) : (win f n).1 = fr := by
  have e1 : st - 1 + 1 = st := by have := h.eq; omega
  have w := win_free (h.free h0)
  rw [e1, h7] at w
  have k := win_kept (f := f) (m := st) (by rw [w]; rfl) (n - st) (fun j a b => h.behind j a (by have := h.le; omega))
  rw [show st + (n - st) = n by have := h.le; omega] at k
  rw [k, w]
  have := h.eq
  simp only
  omega

theorem win_start {f : Nat → Int} {n st : Nat} {fr : Int} (hs : Said f n) (h : Free f n fr st) (h7 : 0 ≤ fr → f (st - 1) ≠ 7) : win f st = (fr, false) := by
  by_cases h0 : 0 ≤ fr
  · have e1 : st - 1 + 1 = st := by have := h.eq; omega
    have w := win_free (h.free h0)
    rw [e1] at w
    have hst := h.eq
    have hle := h.le
    have h5 : f (st - 1) = 5 := by
      have a := h.free h0
      have b := h7 h0
      rcases hs (st - 1) (by omega) with c | c | c | c | c <;> omega
    rw [w, h5, show ((st - 1 : Nat) : Int) = fr by omega]
    rfl
  · have hst := h.eq
    obtain rfl : st = 0 := by omega
    obtain rfl : fr = -1 := by omega
    rfl

theorem small {f : Nat → Int} {n st k : Nat} {fr la : Int} (hs : Said f n) (h : Free f n fr st) (hl : Last f fr st k la) (hk : k ≤ n) : ∀ j, st ≤ j → j < k → f j = 0 ∨ f j = 1 := fun j a b => by
  have h4 := h.behind j a (by omega)
  have h3 := hl.no3 j a b
  rcases hs j (by omega) with c | c | c | c | c <;> omega

theorem win_three {f : Nat → Int} {n st k : Nat} {fr la : Int} (hs : Said f n) (h : Free f n fr st) (h7 : 0 ≤ fr → f (st - 1) ≠ 7) (hl : Last f fr st k la) (hk : k < n) (h3 : f k = 3) : (win f n).1 = k := by
  have w := win_start hs h h7
  have hst := hl.ge
  have lo := win_loose (f := f) (m := st) (by rw [w]) (k - st) (fun j a b => small hs h hl (by omega) j a (by omega))
  rw [show st + (k - st) = k by omega] at lo
  have t := win_take (f := f) (n := k) (by simp [takes, h3, lo])
  have kk := win_kept (f := f) (m := k + 1) (by rw [t, h3]; rfl) (n - (k + 1)) (fun j a b => h.behind j (by omega) (by omega))
  rw [show k + 1 + (n - (k + 1)) = n by omega] at kk
  rw [kk, t]

theorem win_last {f : Nat → Int} {n st : Nat} {fr la : Int} (hs : Said f n) (h : Free f n fr st) (h7 : 0 ≤ fr → f (st - 1) ≠ 7) (hl : Last f fr st n la) : (win f n).1 = la := by
  have w := win_start hs h h7
  have hst := hl.ge
  have sm := small hs h hl (Nat.le_refl _)
  rcases hl.what with ⟨e, hj⟩ | ⟨p, e, h1, h2, hp, hj⟩
  · have nn := win_nothing (f := f) (m := st) (n - st) (fun j a b => by
      have x := hj j a (by omega)
      have y := sm j a (by omega)
      omega)
    rw [show st + (n - st) = n by omega] at nn
    rw [nn, w, e]
  · have lo := win_loose (f := f) (m := st) (by rw [w]) (p - st) (fun j a b => sm j a (by omega))
    rw [show st + (p - st) = p by omega] at lo
    have p1 : f p = 1 := by have := sm p h1 h2; omega
    have t := win_take (f := f) (n := p) (by simp [takes, p1, lo])
    have nn := win_nothing (f := f) (m := p + 1) (n - (p + 1)) (fun j a b => by
      have x := hj j (by omega) (by omega)
      have y := sm j (by omega) (by omega)
      omega)
    rw [show p + 1 + (n - (p + 1)) = n by omega] at nn
    rw [nn, t, e]

theorem win_range (f : Nat → Int) : ∀ n, (win f n).1 = -1 ∨ ∃ p : Nat, (win f n).1 = p ∧ p < n
  | 0 => .inl rfl
  | n + 1 => by
    cases h : takes (f n) (win f n).2
    · rw [win_leave h]
      rcases win_range f n with a | ⟨p, a, b⟩
      · exact .inl a
      · exact .inr ⟨p, a, by omega⟩
    · rw [win_take h]
      exact .inr ⟨n, rfl, by omega⟩

/-! A look on the way down is, thing by thing, the winner's. -/
def y0 (l : List Sy) (j : Nat) : Int := (nth sy0 l j).s0
def y1 (l : List Sy) (j : Nat) : Int := (nth sy0 l j).s1
def y2 (l : List Sy) (j : Nat) : Int := (nth sy0 l j).s2
def y3 (l : List Sy) (j : Nat) : Int := (nth sy0 l j).s3
def y4 (l : List Sy) (j : Nat) : Int := (nth sy0 l j).s4
/-- the look whose value it is -/
def whoL (l : List Sy) (o : Int) : Lk := if 0 ≤ o then (nth sy0 l o.toNat).l else lkW
theorem whoL_at (l : List Sy) (p : Nat) : whoL l p = (nth sy0 l p).l := by rw [whoL, if_pos (by omega)]; rfl
theorem whoL_none (l : List Sy) : whoL l (-1) = lkW := rfl

theorem run_win0 (l : List Sy) : ∀ n, (runTo l n).k0 = (win (y0 l) n).2 ∧ (runTo l n).l.r = (whoL l (win (y0 l) n).1).r ∧ (runTo l n).l.g = (whoL l (win (y0 l) n).1).g ∧ (runTo l n).l.b = (whoL l (win (y0 l) n).1).b ∧ (runTo l n).l.a = (whoL l (win (y0 l) n).1).a
  | 0 => ⟨rfl, rfl, rfl, rfl, rfl⟩
  | n + 1 => by
    have ih := run_win0 l n
    rw [show runTo l (n + 1) = made (runTo l n) (nth sy0 l n) from rfl, made_eq]
    have hy : y0 l n = (nth sy0 l n).s0 := rfl
    cases h : takes (y0 l n) (win (y0 l) n).2
    · rw [win_leave h]
      rw [hy, ← ih.1] at h
      simp only [h]
      exact ih
    · rw [win_take h]
      rw [hy, ← ih.1] at h
      simp only [h, whoL_at]
      exact ⟨rfl, rfl, rfl, rfl, rfl⟩

theorem run_win1 (l : List Sy) : ∀ n, (runTo l n).k1 = (win (y1 l) n).2 ∧ (runTo l n).l.tx = (whoL l (win (y1 l) n).1).tx
  | 0 => ⟨rfl, rfl⟩
  | n + 1 => by
    have ih := run_win1 l n
    rw [show runTo l (n + 1) = made (runTo l n) (nth sy0 l n) from rfl, made_eq]
    have hy : y1 l n = (nth sy0 l n).s1 := rfl
    cases h : takes (y1 l n) (win (y1 l) n).2
    · rw [win_leave h]
      rw [hy, ← ih.1] at h
      simp only [h]
      exact ih
    · rw [win_take h]
      rw [hy, ← ih.1] at h
      simp only [h, whoL_at]
      exact ⟨rfl, rfl⟩

theorem run_win2 (l : List Sy) : ∀ n, (runTo l n).k2 = (win (y2 l) n).2 ∧ (runTo l n).l.cu = (whoL l (win (y2 l) n).1).cu
  | 0 => ⟨rfl, rfl⟩
  | n + 1 => by
    have ih := run_win2 l n
    rw [show runTo l (n + 1) = made (runTo l n) (nth sy0 l n) from rfl, made_eq]
    have hy : y2 l n = (nth sy0 l n).s2 := rfl
    cases h : takes (y2 l n) (win (y2 l) n).2
    · rw [win_leave h]
      rw [hy, ← ih.1] at h
      simp only [h]
      exact ih
    · rw [win_take h]
      rw [hy, ← ih.1] at h
      simp only [h, whoL_at]
      exact ⟨rfl, rfl⟩

theorem run_win3 (l : List Sy) : ∀ n, (runTo l n).k3 = (win (y3 l) n).2 ∧ (runTo l n).l.bi = (whoL l (win (y3 l) n).1).bi
  | 0 => ⟨rfl, rfl⟩
  | n + 1 => by
    have ih := run_win3 l n
    rw [show runTo l (n + 1) = made (runTo l n) (nth sy0 l n) from rfl, made_eq]
    have hy : y3 l n = (nth sy0 l n).s3 := rfl
    cases h : takes (y3 l n) (win (y3 l) n).2
    · rw [win_leave h]
      rw [hy, ← ih.1] at h
      simp only [h]
      exact ih
    · rw [win_take h]
      rw [hy, ← ih.1] at h
      simp only [h, whoL_at]
      exact ⟨rfl, rfl⟩

theorem run_win4 (l : List Sy) : ∀ n, (runTo l n).k4 = (win (y4 l) n).2 ∧ (runTo l n).l.bl = (whoL l (win (y4 l) n).1).bl ∧ (runTo l n).l.bn = (whoL l (win (y4 l) n).1).bn
  | 0 => ⟨rfl, rfl, rfl⟩
  | n + 1 => by
    have ih := run_win4 l n
    rw [show runTo l (n + 1) = made (runTo l n) (nth sy0 l n) from rfl, made_eq]
    have hy : y4 l n = (nth sy0 l n).s4 := rfl
    cases h : takes (y4 l n) (win (y4 l) n).2
    · rw [win_leave h]
      rw [hy, ← ih.1] at h
      simp only [h]
      exact ih
    · rw [win_take h]
      rw [hy, ← ih.1] at h
      simp only [h, whoL_at]
      exact ⟨rfl, rfl, rfl⟩

end Go.Proofs.Ythcplebmffbmpaa
