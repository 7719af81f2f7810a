/- A pack of texts: TxLay, StMath, ArenaMath, Reach, NodesMath, Swap. -/
import Derived.Test.YtcekcihijdipoaaGreatPT1
namespace Go.Proofs.YtcekcihijdipoaaGreat

section


open Go.RowKit Go.ChangeShapes Go.WideShapes Go.ChangeAt Go.Deep

structure Cl where
  r : Int
  g : Int
  b : Int
  a : Int

def fCl (c : Cl) : List Value := [.int .u8 c.r, .int .u8 c.g, .int .u8 c.b, .int .u8 c.a]

def vCl (c : Cl) : Value := .agg #[.int .u8 c.r, .int .u8 c.g, .int .u8 c.b, .int .u8 c.a]

def cl0 : Cl := ⟨0, 0, 0, 0⟩

def ClB (c : Cl) : Prop := (0 ≤ c.r ∧ c.r ≤ 255) ∧ (0 ≤ c.g ∧ c.g ≤ 255) ∧ (0 ≤ c.b ∧ c.b ≤ 255) ∧ (0 ≤ c.a ∧ c.a ≤ 255)

theorem fCl_c : ∀ x, (fCl x).length = 4 := fun _ => rfl

theorem fCl_1 : ∀ x, ∀ u ∈ fCl x, u.oneCell' = true := by intro x u hu; simp only [fCl, List.mem_cons, List.not_mem_nil, or_false] at hu; rcases hu with rfl | rfl | rfl | rfl <;> rfl

theorem cellCl {w : World} {g off n k : Nat} {l : List Cl} (hl : l.length = n) (h : ∀ j u, (l.flatMap fCl)[j]? = some u → w.cell? ⟨g, off + j, none⟩ = some u) (hk : k < n) :
    w.cell? ⟨g, off + k * 4, none⟩ = some (.int .u8 (nth cl0 l k).r) ∧ w.cell? ⟨g, off + k * 4 + 1, none⟩ = some (.int .u8 (nth cl0 l k).g) ∧ w.cell? ⟨g, off + k * 4 + 2, none⟩ = some (.int .u8 (nth cl0 l k).b) ∧ w.cell? ⟨g, off + k * 4 + 3, none⟩ = some (.int .u8 (nth cl0 l k).a) := by
  have h0 := cell_nth (d := cl0) hl fCl_c h k 0 _ hk (by decide) rfl
  have h1 := cell_nth (d := cl0) hl fCl_c h k 1 _ hk (by decide) rfl
  have h2 := cell_nth (d := cl0) hl fCl_c h k 2 _ hk (by decide) rfl
  have h3 := cell_nth (d := cl0) hl fCl_c h k 3 _ hk (by decide) rfl
  rw [Nat.add_zero] at h0
  rw [← Nat.add_assoc] at h1 h2 h3
  exact ⟨h0, h1, h2, h3⟩

def eqCx (a0 a1 a2 a3 b0 b1 b2 b3 : Int) : Bool := a0 == b0 && (a1 == b1 && (a2 == b2 && (a3 == b3)))

theorem eqCx_refl (a0 a1 a2 a3 : Int) : eqCx a0 a1 a2 a3 a0 a1 a2 a3 = true := by simp [eqCx]

def eqCl (c d : Cl) : Bool := eqCx c.r c.g c.b c.a d.r d.g d.b d.a

theorem eqCl_refl (c : Cl) : eqCl c c = true := eqCx_refl _ _ _ _

def sameC (l l2 : List Cl) : Bool := sameL eqCl cl0 l l2

theorem sameC_refl (l : List Cl) : sameC l l = true := same_refl eqCl_refl l

structure TH where
  w : Int
  h : Int
  ao : Option Addr
  n : Nat
  cap : Nat

def fTh (t : TH) : List Value := [.int .i64 t.w, .int .i64 t.h, .slice t.ao t.n t.cap]

def vTh (t : TH) : Value := .agg #[.int .i64 t.w, .int .i64 t.h, .slice t.ao t.n t.cap]

def th0 : TH := ⟨0, 0, none, 0, 0⟩

theorem fTh_c : ∀ x, (fTh x).length = 3 := fun _ => rfl

theorem fTh_1 : ∀ x, ∀ u ∈ fTh x, u.oneCell' = true := by intro x u hu; simp only [fTh, List.mem_cons, List.not_mem_nil, or_false] at hu; rcases hu with rfl | rfl | rfl <;> rfl

theorem cellTh {w : World} {g off n k : Nat} {l : List TH} (hl : l.length = n) (h : ∀ j u, (l.flatMap fTh)[j]? = some u → w.cell? ⟨g, off + j, none⟩ = some u) (hk : k < n) :
    w.cell? ⟨g, off + k * 3, none⟩ = some (.int .i64 (nth th0 l k).w) ∧ w.cell? ⟨g, off + k * 3 + 1, none⟩ = some (.int .i64 (nth th0 l k).h) ∧ w.cell? ⟨g, off + k * 3 + 2, none⟩ = some (.slice (nth th0 l k).ao (nth th0 l k).n (nth th0 l k).cap) := by
  have h0 := cell_nth (d := th0) hl fTh_c h k 0 _ hk (by decide) rfl
  have h1 := cell_nth (d := th0) hl fTh_c h k 1 _ hk (by decide) rfl
  have h2 := cell_nth (d := th0) hl fTh_c h k 2 _ hk (by decide) rfl
  rw [Nat.add_zero] at h0
  rw [← Nat.add_assoc] at h1 h2
  exact ⟨h0, h1, h2⟩

structure TxAt (w : World) (h : TH) (l : List Cl) : Prop where
  le : h.n ≤ 9223372036854775807
  nil : h.ao = none → h.n = 0 ∧ h.cap = 0
  lay : Lay fCl w h.ao h.n l
  ok : ∀ k, k < h.n → ClB (nth cl0 l k)

theorem TxAt.ex {w w' : World} {h : TH} {l : List Cl} (a : TxAt w h l) (hw : ∃ x, w' = plus w x) : TxAt w' h l := ⟨a.le, a.nil, a.lay.ex hw, a.ok⟩

structure TxsAt (w : World) (hs : List TH) (ls : List (List Cl)) : Prop where
  len : hs.length = ls.length
  one : ∀ k, k < hs.length → TxAt w (nth th0 hs k) (nth [] ls k)

theorem TxsAt.ex {w w' : World} {hs : List TH} {ls : List (List Cl)} (a : TxsAt w hs ls) (hw : ∃ x, w' = plus w x) : TxsAt w' hs ls := ⟨a.len, fun k hk => (a.one k hk).ex hw⟩

section

variable {H : Type} {enc : TypeId × Value → H} {P : Program} {W : World} {base : Nat} {spare : Nat → Bool} {held : Bool}

theorem color_cells {t : TypeId} {fuel : Nat} {x : DataW H × List MemPlace} {cs : List Value} (hk : (List.range 4).map (kindAt P 4 t) = [1, 1, 1, 1]) (hl : cs.length = 4)
    (h : DataW.trod enc P W base spare held fuel t cs = some x) : ∃ c : Cl, cs = fCl c ∧ ClB c := by
  have hc := mix_cell 4 t fuel cs x h
  have hq : ∀ j, j < 4 → kindAt P 4 t j = 1 := by
    intro j hj
    have h1 : ((List.range 4).map (kindAt P 4 t))[j]? = some (kindAt P 4 t j) := by simp [hj]
    rw [hk] at h1
    match j, hj with
    | 0, _ => simpa using h1.symm
    | 1, _ => simpa using h1.symm
    | 2, _ => simpa using h1.symm
    | 3, _ => simpa using h1.symm
  match cs, hl, hc with
  | [c0, c1, c2, c3], _, hc =>
    have q0 := hc 0 c0 rfl
    have q1 := hc 1 c1 rfl
    have q2 := hc 2 c2 rfl
    have q3 := hc 3 c3 rfl
    rw [hq 0 (by decide)] at q0
    rw [hq 1 (by decide)] at q1
    rw [hq 2 (by decide)] at q2
    rw [hq 3 (by decide)] at q3
    obtain ⟨n0, rfl, b0⟩ := q0
    obtain ⟨n1, rfl, b1⟩ := q1
    obtain ⟨n2, rfl, b2⟩ := q2
    obtain ⟨n3, rfl, b3⟩ := q3
    exact ⟨⟨n0, n1, n2, n3⟩, rfl, b0, b1, b2, b3⟩

theorem lay_colors {t : TypeId} {ao : Option Addr} {n : Nat} (hk : (List.range 4).map (kindAt P 4 t) = [1, 1, 1, 1])
    (h : RowsAt W ao n 4 (fun cs => ∃ m y, DataW.trod enc P W base spare held m t cs = some y)) : ∃ l : List Cl, Lay fCl W ao n l ∧ ∀ k, k < n → ClB (nth cl0 l k) :=
  lay_rows (f := fCl) (R := ClB) cl0 (by decide) fCl_c h (by
    rintro cs hl ⟨m, y, hy⟩
    exact color_cells hk hl hy)

variable {f0 f1 f2 : Field} {t e : TypeId}

theorem tex_cells {fuel : Nat} {x : DataW H × List MemPlace} {cs : List Value} (hs : P.underlying t = some (.struct #[f0, f1, f2])) (hone : oneCellFields P #[f0, f1, f2] = true) (h0 : P.underlying f0.type = some (.int .i64)) (h1 : P.underlying f1.type = some (.int .i64)) (h2 : P.underlying f2.type = some (.slice e))
    (hc : P.cellsOf e = 4) (hk : (List.range 4).map (kindAt P 4 e) = [1, 1, 1, 1]) (hl : cs.length = 3) (h : DataW.trod enc P W base spare held fuel t cs = some x) : ∃ hh l, cs = fTh hh ∧ TxAt W hh l := by
  obtain ⟨y0, y1, y2, n, hx, _, t0, t1, t2⟩ := trod_struct3 hs h
  obtain ⟨o0, k0⟩ := hone_of hone 0 f0 rfl
  obtain ⟨o1, k1⟩ := hone_of hone 1 f1 rfl
  obtain ⟨o2, k2⟩ := hone_of hone 2 f2 rfl
  match cs, hl, t0, t1, t2 with
  | [c0, c1, c2], _, t0, t1, t2 =>
    have t0' : DataW.trod enc P W base spare held n f0.type [c0] = some y0 := by simpa [o0, k0] using t0
    have t1' : DataW.trod enc P W base spare held n f1.type [c1] = some y1 := by simpa [o1, k1] using t1
    have t2' : DataW.trod enc P W base spare held n f2.type [c2] = some y2 := by simpa [o2, k2] using t2
    obtain ⟨a, ea, _, _⟩ := DataW.trod_int h0 t0'
    obtain rfl : c0 = .int .i64 a := by simpa using ea
    obtain ⟨b, eb, _, _⟩ := DataW.trod_int h1 t1'
    obtain rfl : c1 = .int .i64 b := by simpa using eb
    obtain ⟨ao, m, cap, rfl, hn, hz, ho⟩ := open_sl h2 hc (by decide) t2'
    obtain ⟨l, hl, hb⟩ := lay_colors hk ho
    exact ⟨⟨a, b, ao, m, cap⟩, l, rfl, hn, hz, hl, hb⟩

theorem lay_texs {ao : Option Addr} {n : Nat} (hs : P.underlying t = some (.struct #[f0, f1, f2])) (hone : oneCellFields P #[f0, f1, f2] = true) (h0 : P.underlying f0.type = some (.int .i64)) (h1 : P.underlying f1.type = some (.int .i64)) (h2 : P.underlying f2.type = some (.slice e))
    (hc : P.cellsOf e = 4) (hk : (List.range 4).map (kindAt P 4 e) = [1, 1, 1, 1]) (h : RowsAt W ao n 3 (fun cs => ∃ m y, DataW.trod enc P W base spare held m t cs = some y)) : ∃ hs ls, Lay fTh W ao n hs ∧ TxsAt W hs ls := by
  obtain ⟨l, hl, hR⟩ := lay_rows (f := fTh) (R := fun hh => ∃ p, TxAt W hh p) th0 (by decide) fTh_c h (by
    rintro cs hl ⟨m, y, hy⟩
    obtain ⟨hh, l, e1, hp⟩ := tex_cells hs hone h0 h1 h2 hc hk hl hy
    exact ⟨hh, e1, l, hp⟩)
  have hR' : ∀ k, ∃ p, k < n → TxAt W (nth th0 l k) p := by
    intro k
    by_cases hk : k < n
    · obtain ⟨p, hp⟩ := hR k hk
      exact ⟨p, fun _ => hp⟩
    · exact ⟨[], fun h => absurd h hk⟩
  refine ⟨l, (List.range n).map fun k => Classical.choose (hR' k), hl, ⟨by simp [hl.len], fun k hk => ?_⟩⟩
  rw [hl.len] at hk
  rw [nth_range hk]
  exact Classical.choose_spec (hR' k) hk

end

def side (n : Int) : Bool := decide (1 ≤ n ∧ n ≤ 16)

def plc (n : Int) : Bool := decide (0 ≤ n ∧ n ≤ 255)

def mayT (w h : Int) (n : Nat) : Bool := side w && (side h && decide ((n : Int) = w * h))

def mayH (t : TH) : Bool := mayT t.w t.h t.n

def errT (w h : Int) (n : Nat) : Int := if mayT w h n then 0 else 8

def checksT (hs : List TH) : Int := if 16 < hs.length then 4 else if hs.all mayH then 0 else 8

def spot (w h u v : Int) : Int := v * h / 256 * w + u * w / 256

def atT (w h : Int) (n : Nat) (l : List Cl) (u v : Int) : Cl × Int :=
  if mayT w h n then if plc u && plc v then (nth cl0 l (spot w h u v).toNat, 0) else (cl0, 2) else (cl0, 8)

def sameT (w h : Int) (l : List Cl) (w2 h2 : Int) (l2 : List Cl) : Bool := decide (w = w2) && (decide (h = h2) && sameC l l2)

theorem sameT_refl (w h : Int) (l : List Cl) : sameT w h l w h l = true := by simp [sameT, sameC_refl]

theorem mayT_side {w h : Int} {n : Nat} (hw : side w = false) : mayT w h n = false := by simp [mayT, hw]

theorem mayT_side2 {w h : Int} {n : Nat} (hh : side h = false) : mayT w h n = false := by simp [mayT, hh]

theorem mayT_len {w h : Int} {n : Nat} (hn : ¬ (n : Int) = w * h) : mayT w h n = false := by simp [mayT, hn]

theorem mayT_yes {w h : Int} {n : Nat} (hw : side w = true) (hh : side h = true) (hn : (n : Int) = w * h) : mayT w h n = true := by simp [mayT, hw, hh, hn]

theorem side_iff {n : Int} : side n = true ↔ 1 ≤ n ∧ n ≤ 16 := by simp [side]

theorem mul_le16 {w h : Int} (hw : 1 ≤ w ∧ w ≤ 16) (hh : 1 ≤ h ∧ h ≤ 16) : 1 ≤ w * h ∧ w * h ≤ 256 := by
  have h1 : 1 * 1 ≤ w * h := Int.mul_le_mul hw.1 hh.1 (by omega) (by omega)
  have h2 : w * h ≤ 16 * 16 := Int.mul_le_mul hw.2 hh.2 (by omega) (by omega)
  omega

end

section


structure Lk where
  r : Int
  g : Int
  b : Int
  a : Int
  tx : Int
  cu : Int
  bi : Int
  bl : Bool
  bn : Int

structure Sy where
  s0 : Int
  s1 : Int
  s2 : Int
  s3 : Int
  s4 : Int
  l : Lk

structure Ih where
  l : Lk
  k0 : Bool
  k1 : Bool
  k2 : Bool
  k3 : Bool
  k4 : Bool

def U8 (n : Int) : Prop := 0 ≤ n ∧ n ≤ 255

structure LkB (l : Lk) : Prop where
  r : U8 l.r
  g : U8 l.g
  b : U8 l.b
  a : U8 l.a
  cu : U8 l.cu

structure SyB (s : Sy) : Prop where
  s0 : U8 s.s0
  s1 : U8 s.s1
  s2 : U8 s.s2
  s3 : U8 s.s3
  s4 : U8 s.s4
  l : LkB s.l

def lk0 : Lk := ⟨0, 0, 0, 0, 0, 0, 0, false, 0⟩

def sy0 : Sy := ⟨0, 0, 0, 0, 0, lk0⟩

def ih0 : Ih := ⟨lk0, false, false, false, false, false⟩

def lkW : Lk := ⟨255, 255, 255, 255, -1, 0, 0, false, 0⟩

def ihW : Ih := ⟨lkW, false, false, false, false, false⟩

def lookOk (l : Lk) : Bool := decide (-1 ≤ l.tx) && (decide (l.tx < 16) && (decide (l.cu ≤ 2) && (decide (-1024 ≤ l.bi) && (decide (l.bi ≤ 1024) && (decide (0 ≤ l.bn) && decide (l.bn ≤ 15))))))

def lookErr (l : Lk) : Int := if lookOk l then 0 else 8

def sayOk (n : Int) : Bool := decide (n = 0) || (decide (n = 1) || (decide (n = 3) || (decide (n = 5) || decide (n = 7))))

def t0 (n : Int) (l o : Lk) : Lk := if n = 0 then l else { l with r := o.r, g := o.g, b := o.b, a := o.a }

def t1 (n : Int) (l o : Lk) : Lk := if n = 0 then l else { l with tx := o.tx }

def t2 (n : Int) (l o : Lk) : Lk := if n = 0 then l else { l with cu := o.cu }

def t3 (n : Int) (l o : Lk) : Lk := if n = 0 then l else { l with bi := o.bi }

def t4 (n : Int) (l o : Lk) : Lk := if n = 0 then l else { l with bl := o.bl, bn := o.bn }

def sd (s : Sy) (l : Lk) : Nat → Lk
  | 0 => t0 s.s0 l s.l
  | 1 => t1 s.s1 l s.l
  | 2 => t2 s.s2 l s.l
  | 3 => t3 s.s3 l s.l
  | _ => t4 s.s4 l s.l

def saidTo (s : Sy) : Nat → Lk
  | 0 => lk0
  | k + 1 => sd s (saidTo s k) k

def said (s : Sy) : Lk := saidTo s 5

def eqC (x y : Lk) : Bool := x.r == y.r && (x.g == y.g && (x.b == y.b && x.a == y.a))

def eqL (x y : Lk) : Bool := eqC x y && (x.tx == y.tx && (x.cu == y.cu && (x.bi == y.bi && (x.bl == y.bl && x.bn == y.bn))))

def eqK (x y : Ih) : Bool := x.k0 == y.k0 && (x.k1 == y.k1 && (x.k2 == y.k2 && (x.k3 == y.k3 && x.k4 == y.k4)))

def eqIh (x y : Ih) : Bool := eqL x.l y.l && eqK x y

theorem eqL_refl (x : Lk) : eqL x x = true := by simp [eqL, eqC]

theorem eqL_iff {x y : Lk} : eqL x y = true ↔ x = y := by
  constructor
  · intro h
    obtain ⟨r, g, b, a, t, c, i, l, n⟩ := x
    obtain ⟨r2, g2, b2, a2, t2, c2, i2, l2, n2⟩ := y
    simp [eqL, eqC] at h
    obtain ⟨⟨h1, h2, h3, h4⟩, h5, h6, h7, h8, h9⟩ := h
    subst h1 h2 h3 h4 h5 h6 h7 h8 h9
    rfl
  · rintro rfl
    exact eqL_refl x

def saysOk (s : Sy) : Bool := sayOk s.s0 && (sayOk s.s1 && (sayOk s.s2 && (sayOk s.s3 && sayOk s.s4)))

def styOk (s : Sy) : Bool := saysOk s && (lookOk s.l && eqL (said s) s.l)

def styErr (s : Sy) : Int := if styOk s then 0 else 8

def noSay (s : Sy) : Bool := s.s0 == 0 && (s.s1 == 0 && (s.s2 == 0 && (s.s3 == 0 && s.s4 == 0)))

def takes (n : Int) (k : Bool) : Bool := !(n == 0) && (!k || decide (4 ≤ n))

def overs (n : Int) : Bool := n == 3 || n == 7

def u0 (i : Ih) (s : Sy) : Ih := if takes s.s0 i.k0 then { i with l := { i.l with r := s.l.r, g := s.l.g, b := s.l.b, a := s.l.a }, k0 := overs s.s0 } else i

def u1 (i : Ih) (s : Sy) : Ih := if takes s.s1 i.k1 then { i with l := { i.l with tx := s.l.tx }, k1 := overs s.s1 } else i

def u2 (i : Ih) (s : Sy) : Ih := if takes s.s2 i.k2 then { i with l := { i.l with cu := s.l.cu }, k2 := overs s.s2 } else i

def u3 (i : Ih) (s : Sy) : Ih := if takes s.s3 i.k3 then { i with l := { i.l with bi := s.l.bi }, k3 := overs s.s3 } else i

def u4 (i : Ih) (s : Sy) : Ih := if takes s.s4 i.k4 then { i with l := { i.l with bl := s.l.bl, bn := s.l.bn }, k4 := overs s.s4 } else i

def mk (i : Ih) (s : Sy) : Nat → Ih
  | 0 => u0 i s
  | 1 => u1 i s
  | 2 => u2 i s
  | 3 => u3 i s
  | _ => u4 i s

def madeTo (i : Ih) (s : Sy) : Nat → Ih
  | 0 => i
  | k + 1 => mk (madeTo i s k) s k

def made (i : Ih) (s : Sy) : Ih := madeTo i s 5

def underOk (i : Ih) (s : Sy) : Bool := lookOk i.l && styOk s

def underErr (i : Ih) (s : Sy) : Int := if underOk i s then 0 else 8

def under (i : Ih) (s : Sy) : Ih := if underOk i s then made i s else ih0

end

section


open Go.RowKit

structure Sl where
  gen : Int
  live : Bool

def dSl : Sl := ⟨0, false⟩

def slOk (s : Sl) : Bool := decide (1 ≤ s.gen) && decide (s.gen ≤ 1073741824)

def arOk (l : List Sl) : Bool := l.all slOk && decide (l.length ≤ 128)

def freeS (s : Sl) : Bool := !s.live && decide (s.gen < 1073741824)

def heldIn (l : List Sl) (s g : Int) : Bool := decide (0 ≤ s ∧ s < l.length) && ((nth dSl l s.toNat).live && decide ((nth dSl l s.toNat).gen = g))

def holds (l : List Sl) (s g : Int) : Bool := arOk l && heldIn l s g

def freeAt : List Sl → Nat
  | [] => 0
  | s :: r => if freeS s = true then 0 else freeAt r + 1

def mkErr (l : List Sl) : Int := if arOk l = true then (if freeAt l < l.length then 0 else if l.length = 128 then 9 else 0) else 8

def mkList (l : List Sl) : List Sl := if freeAt l < l.length then l.set (freeAt l) ⟨(nth dSl l (freeAt l)).gen + 1, true⟩ else l ++ [⟨1, true⟩]

def mkSlot (l : List Sl) : Int := freeAt l

def mkGen (l : List Sl) : Int := if freeAt l < l.length then (nth dSl l (freeAt l)).gen + 1 else 1

def killErr (l : List Sl) (s g : Int) : Int := if arOk l = true then (if heldIn l s g = true then 0 else 50) else 8

def killList (l : List Sl) (s : Int) : List Sl := l.set s.toNat ⟨(nth dSl l s.toNat).gen, false⟩

theorem nth_set' {α : Type} {d x : α} {l : List α} {k j : Nat} (hk : k < l.length) : nth d (l.set k x) j = if j = k then x else nth d l j := by
  unfold nth
  by_cases e : j = k
  · subst e
    simp [hk]
  · have e' : ¬ k = j := fun h => e h.symm
    simp [e, e']

theorem freeAt_le : ∀ l : List Sl, freeAt l ≤ l.length
  | [] => Nat.le_refl _
  | s :: r => by
    have := freeAt_le r
    unfold freeAt
    split
    · exact Nat.zero_le _
    · rw [List.length_cons]; omega

theorem freeAt_before : ∀ {l : List Sl} {k : Nat}, k < freeAt l → freeS (nth dSl l k) = false
  | [], k, hk => by simp [freeAt] at hk
  | s :: r, k, hk => by
    unfold freeAt at hk
    split at hk
    · omega
    · rename_i h
      match k with
      | 0 => simpa [nth] using h
      | k + 1 => exact freeAt_before (l := r) (k := k) (by omega)

theorem freeAt_here : ∀ {l : List Sl}, freeAt l < l.length → freeS (nth dSl l (freeAt l)) = true
  | [], h => by simp at h
  | s :: r, h => by
    unfold freeAt at *
    split at h
    · rename_i h1
      rw [if_pos h1]
      exact h1
    · rename_i h1
      rw [if_neg h1]
      exact freeAt_here (l := r) (by rw [List.length_cons] at h; omega)

theorem freeAt_is {l : List Sl} {k : Nat} (hk : k ≤ l.length) (h1 : ∀ j, j < k → freeS (nth dSl l j) = false) (h2 : k < l.length → freeS (nth dSl l k) = true) : freeAt l = k := by
  rcases Nat.lt_trichotomy (freeAt l) k with h | h | h
  · have := h1 _ h
    rw [freeAt_here (by omega)] at this
    cases this
  · exact h
  · have := freeAt_before h
    rw [h2 (Nat.lt_of_lt_of_le h (freeAt_le l))] at this
    cases this

theorem arOk_at {l : List Sl} (h : arOk l = true) {k : Nat} (hk : k < l.length) : 1 ≤ (nth dSl l k).gen ∧ (nth dSl l k).gen ≤ 1073741824 := by
  simp only [arOk, Bool.and_eq_true, List.all_eq_true] at h
  have := h.1 _ (nth_mem (d := dSl) hk)
  simpa [slOk] using this

theorem arOk_len {l : List Sl} (h : arOk l = true) : l.length ≤ 128 := by
  simp only [arOk, Bool.and_eq_true, decide_eq_true_eq] at h
  exact h.2

theorem arOk_mk {l : List Sl} (hl : l.length ≤ 128) (h : ∀ k, k < l.length → 1 ≤ (nth dSl l k).gen ∧ (nth dSl l k).gen ≤ 1073741824) : arOk l = true := by
  simp only [arOk, Bool.and_eq_true, List.all_eq_true, decide_eq_true_eq]
  refine ⟨fun s hs => ?_, hl⟩
  obtain ⟨k, hk, rfl⟩ := List.getElem_of_mem hs
  have := h k hk
  rw [nth_eq hk] at this
  simpa [slOk] using this

theorem free_gen {s : Sl} (h : freeS s = true) : s.live = false ∧ s.gen < 1073741824 := by
  simpa [freeS] using h

theorem mk_ok {l : List Sl} (h : mkErr l = 0) : arOk l = true ∧ (freeAt l < l.length ∨ l.length < 128) := by
  unfold mkErr at h
  split at h
  · rename_i h1
    refine ⟨h1, ?_⟩
    split at h
    · rename_i h2; exact .inl h2
    · split at h
      · cases h
      · rename_i h3
        have := arOk_len h1
        exact .inr (by omega)
  · cases h

theorem mkList_ok {l : List Sl} (h : mkErr l = 0) : arOk (mkList l) = true := by
  obtain ⟨h1, h2⟩ := mk_ok h
  have hlen := arOk_len h1
  unfold mkList
  split
  · rename_i hf
    have hg := free_gen (freeAt_here hf)
    have ha := arOk_at h1 hf
    refine arOk_mk (by rw [List.length_set]; exact hlen) fun k hk => ?_
    rw [List.length_set] at hk
    rw [nth_set' hf]
    split
    · simp only; omega
    · exact arOk_at h1 hk
  · rename_i hf
    refine arOk_mk (by rw [List.length_append]; simp; omega) fun k hk => ?_
    rw [List.length_append] at hk
    simp only [List.length_cons, List.length_nil] at hk
    by_cases hkl : k < l.length
    · rw [nth_append_left hkl]
      exact arOk_at h1 hkl
    · rw [nth_append_right (by omega), show k - l.length = 0 by omega]
      exact ⟨by decide, by decide⟩

theorem killList_ok {l : List Sl} {s : Int} (h : arOk l = true) (hs : s.toNat < l.length) : arOk (killList l s) = true := by
  refine arOk_mk (by unfold killList; rw [List.length_set]; exact arOk_len h) fun k hk => ?_
  unfold killList at *
  rw [List.length_set] at hk
  rw [nth_set' hs]
  split
  · exact arOk_at h hs
  · exact arOk_at h hk

theorem held_spec {l : List Sl} {s g : Int} : heldIn l s g = true ↔ (0 ≤ s ∧ s < l.length) ∧ (nth dSl l s.toNat).live = true ∧ (nth dSl l s.toNat).gen = g := by
  simp [heldIn, Bool.and_eq_true]

structure Keeps (l : List Sl) (gv : List (Int × Int)) (lv : List Bool) : Prop where
  len : gv.length = lv.length
  rng : ∀ k, k < gv.length → 0 ≤ (nth (0, 0) gv k).1 ∧ (nth (0, 0) gv k).1 < l.length ∧ (nth (0, 0) gv k).2 ≤ (nth dSl l (nth (0, 0) gv k).1.toNat).gen
  is : ∀ k, k < gv.length → heldIn l (nth (0, 0) gv k).1 (nth (0, 0) gv k).2 = nth false lv k
  two : ∀ j k, j < gv.length → k < gv.length → nth (0, 0) gv j = nth (0, 0) gv k → j = k

theorem mkList_length (l : List Sl) : l.length ≤ (mkList l).length := by
  unfold mkList
  split
  · rw [List.length_set]; exact Nat.le_refl _
  · rw [List.length_append]; omega

theorem mk_other {l : List Sl} {s g : Int} (h0 : 0 ≤ s) (h1 : s < l.length) (hg : g ≤ (nth dSl l s.toNat).gen) : heldIn (mkList l) s g = heldIn l s g ∧ g ≤ (nth dSl (mkList l) s.toNat).gen := by
  have hs : s.toNat < l.length := by omega
  unfold mkList
  split
  · rename_i hf
    rw [nth_set' hf]
    by_cases e : s.toNat = freeAt l
    · rw [if_pos e]
      have hfr := free_gen (freeAt_here hf)
      refine ⟨?_, by rw [e] at hg; simp only; omega⟩
      have a1 : heldIn l s g = false := by
        cases h : heldIn l s g with
        | false => rfl
        | true => rw [held_spec, e, hfr.1] at h; cases h.2.1
      rw [a1]
      cases h : heldIn (l.set (freeAt l) ⟨(nth dSl l (freeAt l)).gen + 1, true⟩) s g with
      | false => rfl
      | true =>
        rw [held_spec, nth_set' hf, if_pos e] at h
        have := h.2.2
        rw [e] at hg
        simp only at this
        omega
    · rw [if_neg e]
      exact ⟨by unfold heldIn; rw [List.length_set, nth_set' hf, if_neg e], hg⟩
  · rw [nth_append_left hs]
    refine ⟨?_, hg⟩
    unfold heldIn
    rw [nth_append_left hs, List.length_append]
    have : (0 ≤ s ∧ s < ((l.length + [(⟨1, true⟩ : Sl)].length : Nat) : Int)) ↔ (0 ≤ s ∧ s < (l.length : Int)) := by
      constructor
      · intro _; exact ⟨h0, h1⟩
      · intro _; simp only [List.length_cons, List.length_nil]; omega
    simp only [this]

end

section


open Go.RowKit

section

variable {K K' : Nat → List Nat} {n : Nat}

def reachN (K : Nat → List Nat) : Nat → Nat → Nat → Prop
  | 0, i, j => i = j
  | m + 1, i, j => i = j ∨ ∃ c, c ∈ K i ∧ reachN K m c j

def Reach (K : Nat → List Nat) (i j : Nat) : Prop := ∃ m, reachN K m i j

theorem reach_refl (i : Nat) : Reach K i i := ⟨0, rfl⟩

theorem reach_step {i c j : Nat} (hc : c ∈ K i) (h : Reach K c j) : Reach K i j := by
  obtain ⟨m, hm⟩ := h
  exact ⟨m + 1, .inr ⟨c, hc, hm⟩⟩

theorem reachN_closed {P : Nat → Prop} (hcl : ∀ x c, P x → c ∈ K x → P c) : ∀ m i j, P i → reachN K m i j → P j
  | 0, i, j, hi, h => by
    have e : i = j := h
    exact e ▸ hi
  | m + 1, i, j, hi, h => by
    rcases h with e | ⟨c, hc, h⟩
    · exact e ▸ hi
    · exact reachN_closed hcl m c j (hcl i c hi hc) h

theorem reach_closed {P : Nat → Prop} (hcl : ∀ x c, P x → c ∈ K x → P c) {i j : Nat} (hi : P i) (h : Reach K i j) : P j := by
  obtain ⟨m, hm⟩ := h
  exact reachN_closed hcl m i j hi hm

theorem reach_trans {i j k : Nat} (h1 : Reach K i j) (h2 : Reach K j k) : Reach K i k := by
  obtain ⟨m, hm⟩ := h1
  induction m generalizing i with
  | zero =>
    have e : i = j := hm
    exact e ▸ h2
  | succ m ih =>
    rcases hm with e | ⟨c, hc, h⟩
    · exact e ▸ h2
    · exact reach_step hc (ih h)

theorem reach_one {i c : Nat} (h : c ∈ K i) : Reach K i c := reach_step h (reach_refl c)

theorem reach_snoc {i j c : Nat} (h : Reach K i j) (hc : c ∈ K j) : Reach K i c := reach_trans h (reach_one hc)

theorem reach_sub (hs : ∀ i c, c ∈ K' i → c ∈ K i) {i j : Nat} (h : Reach K' i j) : Reach K i j :=
  reach_closed (P := fun x => Reach K i x) (fun x c hx hc => reach_snoc hx (hs x c hc)) (reach_refl i) h

def Acyc (K : Nat → List Nat) (n : Nat) : Prop := ∀ i, i < n → ∀ c, c ∈ K i → ¬ Reach K c i

theorem acyc_sub (hs : ∀ i c, c ∈ K' i → c ∈ K i) (h : Acyc K n) : Acyc K' n := fun i hi c hc hr => h i hi c (hs i c hc) (reach_sub hs hr)

theorem reach_link {p x : Nat} (hl : ∀ i c, c ∈ K' i → c ∈ K i ∨ (i = p ∧ c = x)) {i j : Nat} (h : Reach K' i j) : Reach K i j ∨ (Reach K i p ∧ Reach K x j) := by
  refine reach_closed (K := K') (P := fun y => Reach K i y ∨ (Reach K i p ∧ Reach K x y)) (fun y c hy hc => ?_) (.inl (reach_refl i)) h
  rcases hl y c hc with h1 | ⟨rfl, rfl⟩
  · rcases hy with h2 | ⟨h2, h3⟩
    · exact .inl (reach_snoc h2 h1)
    · exact .inr ⟨h2, reach_snoc h3 h1⟩
  · rcases hy with h2 | ⟨h2, h3⟩
    · exact .inr ⟨h2, reach_refl c⟩
    · exact .inr ⟨h2, reach_refl c⟩

theorem acyc_link {p x : Nat} (hl : ∀ i c, c ∈ K' i → c ∈ K i ∨ (i = p ∧ c = x)) (h : Acyc K n) (hno : ¬ Reach K x p) : Acyc K' n := by
  intro i hi c hc hr
  rcases hl i c hc with h1 | ⟨rfl, rfl⟩
  · rcases reach_link hl hr with h2 | ⟨h2, h3⟩
    · exact h i hi c h1 h2
    · exact hno (reach_trans (reach_snoc h3 h1) h2)
  · rcases reach_link hl hr with h2 | ⟨h2, _⟩
    · exact hno h2
    · exact hno h2

def cnt (o : List Bool) : Nat := o.countP id

def Le (a b : List Bool) : Prop := a.length = b.length ∧ ∀ j, nth false a j = true → nth false b j = true

theorem le_refl' (a : List Bool) : Le a a := ⟨rfl, fun _ h => h⟩

theorem le_trans' {a b c : List Bool} (h1 : Le a b) (h2 : Le b c) : Le a c := ⟨h1.1.trans h2.1, fun j h => h2.2 j (h1.2 j h)⟩

theorem le_set (a : List Bool) (k : Nat) : Le a (a.set k true) := by
  refine ⟨by rw [List.length_set], fun j h => ?_⟩
  by_cases hk : k < a.length
  · rw [nth_set' hk]
    split
    · rfl
    · exact h
  · rw [List.set_eq_of_length_le (by omega)]
    exact h

theorem nth_cons_succ {α : Type} (d x : α) (l : List α) (k : Nat) : nth d (x :: l) (k + 1) = nth d l k := by simp [nth]

theorem nth_cons_zero {α : Type} (d x : α) (l : List α) : nth d (x :: l) 0 = x := by simp [nth]

theorem nth_ge {α : Type} {d : α} {l : List α} {k : Nat} (h : l.length ≤ k) : nth d l k = d := by simp [nth, List.getElem?_eq_none h]

theorem cnt_le : ∀ {a b : List Bool}, Le a b → cnt a ≤ cnt b
  | [], [], _ => Nat.le_refl _
  | [], b :: y, h => by simp [Le] at h
  | a :: x, [], h => by simp [Le] at h
  | a :: x, b :: y, h => by
    have h1 : Le x y := ⟨by simpa using h.1, fun j hj => by have := h.2 (j + 1); rw [nth_cons_succ, nth_cons_succ] at this; exact this hj⟩
    have h0 := h.2 0
    rw [nth_cons_zero, nth_cons_zero] at h0
    have := cnt_le h1
    unfold cnt at *
    cases a with
    | false => rw [List.countP_cons, List.countP_cons]; simp; omega
    | true => rw [h0 rfl, List.countP_cons, List.countP_cons]; omega

theorem cnt_lt : ∀ {a b : List Bool} (k : Nat), Le a b → nth false a k = false → nth false b k = true → cnt a < cnt b
  | [], [], k, _, _, h => by simp [nth] at h
  | [], b :: y, k, h, _, _ => by simp [Le] at h
  | a :: x, [], k, h, _, _ => by simp [Le] at h
  | a :: x, b :: y, k, h, ha, hb => by
    have h1 : Le x y := ⟨by simpa using h.1, fun j hj => by have := h.2 (j + 1); rw [nth_cons_succ, nth_cons_succ] at this; exact this hj⟩
    have h0 := h.2 0
    rw [nth_cons_zero, nth_cons_zero] at h0
    cases k with
    | zero =>
      rw [nth_cons_zero] at ha hb
      have := cnt_le h1
      subst ha hb
      unfold cnt at *
      rw [List.countP_cons, List.countP_cons]
      simp
      omega
    | succ k =>
      rw [nth_cons_succ] at ha hb
      have := cnt_lt k h1 ha hb
      unfold cnt at *
      cases a with
      | false => rw [List.countP_cons, List.countP_cons]; simp; omega
      | true => rw [h0 rfl, List.countP_cons, List.countP_cons]; omega

theorem cnt_len (a : List Bool) : cnt a ≤ a.length := List.countP_le_length

theorem le_eq {a b : List Bool} (h : Le a b) (hc : cnt b ≤ cnt a) : a = b := by
  refine ext_nth (d := false) h.1 fun k _ => ?_
  cases ha : nth false a k with
  | true => rw [h.2 k ha]
  | false =>
    cases hb : nth false b k with
    | false => rfl
    | true =>
      have := cnt_lt k h ha hb
      omega

theorem cnt_all {a : List Bool} (h : cnt a = a.length) {k : Nat} (hk : k < a.length) : nth false a k = true := by
  have h2 : ∀ x ∈ a, id x = true := List.countP_eq_length.1 h
  exact h2 _ (nth_mem hk)

theorem all_cnt {a : List Bool} (h : ∀ k, k < a.length → nth false a k = true) : cnt a = a.length := by
  refine List.countP_eq_length.2 fun x hx => ?_
  obtain ⟨k, hk, rfl⟩ := List.getElem_of_mem hx
  have := h k hk
  rwa [nth_eq hk] at this

def stp (i : Nat) (o : List Bool) (c : Nat) : List Bool := if nth false o i = true then o.set c true else o

def inn (K : Nat → List Nat) (o : List Bool) (i k : Nat) : List Bool := ((K i).take k).foldl (stp i) o

def mid (K : Nat → List Nat) (o : List Bool) : Nat → List Bool
  | 0 => o
  | i + 1 => inn K (mid K o i) i (K i).length

def rnd (K : Nat → List Nat) (n : Nat) (o : List Bool) : Nat → List Bool
  | 0 => o
  | r + 1 => mid K (rnd K n o r) n

theorem le_stp (i : Nat) (o : List Bool) (c : Nat) : Le o (stp i o c) := by
  unfold stp
  split
  · exact le_set o c
  · exact le_refl' o

theorem le_fold (i : Nat) : ∀ (cs : List Nat) (o : List Bool), Le o (cs.foldl (stp i) o)
  | [], o => le_refl' o
  | c :: cs, o => le_trans' (le_stp i o c) (le_fold i cs _)

theorem le_inn (o : List Bool) (i k : Nat) : Le o (inn K o i k) := le_fold i _ o

theorem le_mid (o : List Bool) : ∀ i, Le o (mid K o i)
  | 0 => le_refl' o
  | i + 1 => le_trans' (le_mid o i) (le_inn _ i _)

theorem le_mid_on (o : List Bool) (i : Nat) : ∀ j, Le (mid K o i) (mid K o (i + j))
  | 0 => le_refl' _
  | j + 1 => le_trans' (le_mid_on o i j) (le_inn _ (i + j) _)

theorem fold_hits {i : Nat} : ∀ (cs : List Nat) (o : List Bool), nth false o i = true → (∀ c, c ∈ cs → c < o.length) → ∀ c, c ∈ cs → nth false (cs.foldl (stp i) o) c = true
  | [], o, _, _, c, hc => by simp at hc
  | a :: cs, o, hi, hl, c, hc => by
    have hs : nth false (stp i o a) i = true := (le_stp i o a).2 i hi
    rcases List.mem_cons.1 hc with rfl | hc'
    · refine (le_fold i cs _).2 c ?_
      unfold stp
      rw [if_pos hi, nth_set' (hl c (by simp)), if_pos rfl]
    · exact fold_hits cs _ hs (fun x hx => by rw [← (le_stp i o a).1]; exact hl x (by simp [hx])) c hc'

theorem mid_hits {o : List Bool} (hK : ∀ i, i < n → ∀ c, c ∈ K i → c < n) (hl : o.length = n) {i c : Nat} (hi : i < n) (hm : nth false o i = true) (hc : c ∈ K i) : nth false (mid K o n) c = true := by
  have h1 := (le_mid (K := K) o i).2 i hm
  have h2 : nth false (mid K o (i + 1)) c = true := by
    show nth false (inn K (mid K o i) i (K i).length) c = true
    unfold inn
    rw [List.take_length]
    exact fold_hits (K i) _ h1 (fun x hx => by rw [← (le_mid (K := K) o i).1, hl]; exact hK i hi x hx) c hc
  have h3 := (le_mid_on (K := K) o (i + 1) (n - (i + 1))).2 c h2
  rwa [show i + 1 + (n - (i + 1)) = n by omega] at h3

theorem fold_sound {P : Nat → Prop} {i : Nat} : ∀ (cs : List Nat) (o : List Bool), (∀ j, nth false o j = true → P j) → (P i → ∀ c, c ∈ cs → P c) → ∀ j, nth false (cs.foldl (stp i) o) j = true → P j
  | [], o, h, _, j, hj => h j hj
  | a :: cs, o, h, hc, j, hj => by
    refine fold_sound cs (stp i o a) (fun x hx => ?_) (fun hi c hcc => hc hi c (by simp [hcc])) j hj
    unfold stp at hx
    split at hx
    · rename_i hi
      by_cases ha : a < o.length
      · rw [nth_set' ha] at hx
        split at hx
        · rename_i e; rw [e]; exact hc (h i hi) a (by simp)
        · exact h x hx
      · rw [List.set_eq_of_length_le (by omega)] at hx
        exact h x hx
    · exact h x hx

theorem inn_sound {P : Nat → Prop} {o : List Bool} {i k : Nat} (hcl : ∀ x c, P x → c ∈ K x → P c) (h : ∀ j, nth false o j = true → P j) : ∀ j, nth false (inn K o i k) j = true → P j :=
  fold_sound _ o h (fun hi c hc => hcl i c hi (List.mem_of_mem_take hc))

theorem mid_sound {P : Nat → Prop} {o : List Bool} (hcl : ∀ x c, P x → c ∈ K x → P c) (h : ∀ j, nth false o j = true → P j) : ∀ i j, nth false (mid K o i) j = true → P j
  | 0 => h
  | i + 1 => inn_sound hcl (mid_sound hcl h i)

theorem rnd_sound {P : Nat → Prop} {o : List Bool} (hcl : ∀ x c, P x → c ∈ K x → P c) (h : ∀ j, nth false o j = true → P j) : ∀ r j, nth false (rnd K n o r) j = true → P j
  | 0 => h
  | r + 1 => mid_sound hcl (rnd_sound hcl h r) n

theorem le_rnd (o : List Bool) : ∀ r, Le o (rnd K n o r)
  | 0 => le_refl' o
  | r + 1 => le_trans' (le_rnd o r) (le_mid _ n)

theorem rnd_still {o : List Bool} (hl : o.length = n) (h1 : 1 ≤ cnt o) : mid K (rnd K n o n) n = rnd K n o n := by
  have key : ∀ r, mid K (rnd K n o r) n = rnd K n o r ∨ r + 1 ≤ cnt (rnd K n o r) := by
    intro r
    induction r with
    | zero => exact .inr h1
    | succ r ih =>
      rcases ih with e | h
      · left
        show mid K (mid K (rnd K n o r) n) n = mid K (rnd K n o r) n
        rw [e, e]
      · by_cases hc : cnt (mid K (rnd K n o r) n) ≤ cnt (rnd K n o r)
        · left
          have e := le_eq (le_mid (K := K) (rnd K n o r) n) hc
          show mid K (mid K (rnd K n o r) n) n = mid K (rnd K n o r) n
          rw [← e, ← e]
        · right
          show r + 1 + 1 ≤ cnt (mid K (rnd K n o r) n)
          omega
  rcases key n with e | h
  · exact e
  · have := cnt_len (rnd K n o n)
    rw [← (le_rnd o n).1, hl] at this
    omega

def below (K : Nat → List Nat) (n i : Nat) : List Bool := rnd K n ((List.replicate n false).set i true) n

theorem below_len (i : Nat) : (below K n i).length = n := by
  have := (le_rnd (K := K) (n := n) ((List.replicate n false).set i true) n).1
  rw [List.length_set, List.length_replicate] at this
  exact this.symm

theorem nth_replicate (n j : Nat) : nth false (List.replicate n false) j = false := by
  by_cases h : j < n
  · rw [nth_eq (by simpa using h)]; simp
  · rw [nth_ge (by simpa using h)]

theorem below_spec (hK : ∀ i, i < n → ∀ c, c ∈ K i → c < n) {i : Nat} (hi : i < n) (j : Nat) : nth false (below K n i) j = true ↔ Reach K i j := by
  have hl : ((List.replicate n false).set i true).length = n := by rw [List.length_set, List.length_replicate]
  have h0 : nth false ((List.replicate n false).set i true) i = true := by rw [nth_set' (by simpa using hi), if_pos rfl]
  have hc : 1 ≤ cnt ((List.replicate n false).set i true) := by
    have := cnt_lt i (le_set (List.replicate n false) i) (nth_replicate n i) h0
    omega
  constructor
  · refine rnd_sound (P := fun x => Reach K i x) (fun x c hx hc => reach_snoc hx hc) (fun x hx => ?_) n j
    rw [nth_set' (by simpa using hi)] at hx
    split at hx
    · rename_i e; rw [e]; exact reach_refl i
    · rw [nth_replicate] at hx; cases hx
  · intro h
    have hst := rnd_still (K := K) hl hc
    have := reach_closed (P := fun x => x < n ∧ nth false (below K n i) x = true) (fun x c hx hcx => ⟨hK x hx.1 c hcx, by
      have h2 := mid_hits hK (o := rnd K n ((List.replicate n false).set i true) n) (by rw [← (le_rnd _ n).1, hl]) hx.1 hx.2 hcx
      rw [hst] at h2
      exact h2⟩) ⟨hi, (le_rnd _ n).2 i h0⟩ h
    exact this.2

def stpL (K : Nat → List Nat) (o : List Bool) (i : Nat) : List Bool := if ((K i).all fun c => nth false o c) && !nth false o i then o.set i true else o

def midL (K : Nat → List Nat) (o : List Bool) : Nat → List Bool
  | 0 => o
  | i + 1 => stpL K (midL K o i) i

def rndL (K : Nat → List Nat) (n : Nat) (o : List Bool) : Nat → List Bool
  | 0 => o
  | r + 1 => midL K (rndL K n o r) n

theorem le_stpL (o : List Bool) (i : Nat) : Le o (stpL K o i) := by
  unfold stpL
  split
  · exact le_set o i
  · exact le_refl' o

theorem le_midL (o : List Bool) : ∀ i, Le o (midL K o i)
  | 0 => le_refl' o
  | i + 1 => le_trans' (le_midL o i) (le_stpL _ i)

theorem le_midL_on (o : List Bool) (i : Nat) : ∀ j, Le (midL K o i) (midL K o (i + j))
  | 0 => le_refl' _
  | j + 1 => le_trans' (le_midL_on o i j) (le_stpL _ (i + j))

theorem le_rndL (o : List Bool) : ∀ r, Le o (rndL K n o r)
  | 0 => le_refl' o
  | r + 1 => le_trans' (le_rndL o r) (le_midL _ n)

def Sane (K : Nat → List Nat) (o : List Bool) : Prop := (∀ x c, nth false o x = true → c ∈ K x → nth false o c = true) ∧ ∀ x, nth false o x = true → ∀ c, c ∈ K x → ¬ Reach K c x

theorem sane_stp {o : List Bool} (h : Sane K o) (i : Nat) : Sane K (stpL K o i) := by
  unfold stpL
  split
  · rename_i hi
    simp only [Bool.and_eq_true, List.all_eq_true, Bool.not_eq_true'] at hi
    by_cases hl : i < o.length
    · have hn : ∀ c, c ∈ K i → ¬ Reach K c i := by
        intro c hc hr
        have h2 : nth false o i = true := reach_closed (P := fun x => nth false o x = true) h.1 (hi.1 c hc) hr
        rw [hi.2] at h2
        cases h2
      have hs := (le_set o i).2
      refine ⟨fun x c hx hc => ?_, fun x hx c hc => ?_⟩
      · rw [nth_set' hl] at hx
        split at hx
        · rename_i e; subst e; exact hs c (hi.1 c hc)
        · exact hs c (h.1 x c hx hc)
      · rw [nth_set' hl] at hx
        split at hx
        · rename_i e; subst e; exact hn c hc
        · exact h.2 x hx c hc
    · rw [List.set_eq_of_length_le (by omega)]
      exact h
  · exact h

theorem sane_mid {o : List Bool} (h : Sane K o) : ∀ i, Sane K (midL K o i)
  | 0 => h
  | i + 1 => sane_stp (sane_mid h i) i

theorem sane_rnd {o : List Bool} (h : Sane K o) : ∀ r, Sane K (rndL K n o r)
  | 0 => h
  | r + 1 => sane_mid (sane_rnd h r) n

def countedL (K : Nat → List Nat) (n : Nat) : List Bool := rndL K n (List.replicate n false) n

theorem counted_len : (countedL K n).length = n := by
  have := (le_rndL (K := K) (n := n) (List.replicate n false) n).1
  rw [List.length_replicate] at this
  exact this.symm

theorem counted_sound (h : cnt (countedL K n) = n) : Acyc K n := by
  intro i hi c hc
  have hs : Sane K (countedL K n) := sane_rnd ⟨fun x c hx => by (rw [nth_replicate] at hx; cases hx), fun x hx => by (rw [nth_replicate] at hx; cases hx)⟩ n
  exact hs.2 i (cnt_all (by rw [counted_len]; exact h) (by rw [counted_len]; exact hi)) c hc

theorem rank_lt (hK : ∀ i, i < n → ∀ c, c ∈ K i → c < n) (ha : Acyc K n) {i c : Nat} (hi : i < n) (hc : c ∈ K i) : cnt (below K n c) < cnt (below K n i) := by
  have hcn := hK i hi c hc
  refine cnt_lt i ⟨by rw [below_len, below_len], fun j hj => ?_⟩ ?_ ?_
  · rw [below_spec hK hcn] at hj
    rw [below_spec hK hi]
    exact reach_step hc hj
  · cases h : nth false (below K n c) i with
    | false => rfl
    | true =>
      rw [below_spec hK hcn] at h
      exact absurd h (ha i hi c hc)
  · rw [below_spec hK hi]
    exact reach_refl i

theorem mid_counts {o : List Bool} (hl : o.length = n) {i : Nat} (hi : i < n) (h : ∀ c, c ∈ K i → nth false o c = true) : nth false (midL K o n) i = true := by
  have h1 : nth false (midL K o (i + 1)) i = true := by
    show nth false (stpL K (midL K o i) i) i = true
    have hall : ((K i).all fun c => nth false (midL K o i) c) = true := List.all_eq_true.2 fun c hc => (le_midL (K := K) o i).2 c (h c hc)
    unfold stpL
    rw [hall, Bool.true_and]
    cases hv : nth false (midL K o i) i with
    | true => simpa using hv
    | false =>
      have hli : i < (midL K o i).length := by rw [← (le_midL (K := K) o i).1, hl]; exact hi
      rw [if_pos (by rfl), nth_set' hli, if_pos rfl]
  have h2 := (le_midL_on (K := K) o (i + 1) (n - (i + 1))).2 i h1
  rwa [show i + 1 + (n - (i + 1)) = n by omega] at h2

theorem counted_all (hK : ∀ i, i < n → ∀ c, c ∈ K i → c < n) (ha : Acyc K n) : cnt (countedL K n) = n := by
  have key : ∀ r i, i < n → cnt (below K n i) ≤ r → nth false (rndL K n (List.replicate n false) r) i = true := by
    intro r
    induction r with
    | zero =>
      intro i hi h
      have hb : nth false (below K n i) i = true := (below_spec hK hi i).2 (reach_refl i)
      have := cnt_lt (a := List.replicate n false) (b := below K n i) i ⟨by rw [List.length_replicate, below_len], fun j hj => by rw [nth_replicate] at hj; cases hj⟩ (nth_replicate n i) hb
      omega
    | succ r ih =>
      intro i hi h
      refine mid_counts (by rw [← (le_rndL _ r).1, List.length_replicate]) hi fun c hc => ?_
      have := rank_lt hK ha hi hc
      exact ih c (hK i hi c hc) (by omega)
  have h2 := all_cnt (a := countedL K n) fun k hk => by
    rw [counted_len] at hk
    exact key n k hk (by have := cnt_len (below K n k); rw [below_len] at this; exact this)
  rwa [counted_len] at h2

theorem counted_iff (hK : ∀ i, i < n → ∀ c, c ∈ K i → c < n) : cnt (countedL K n) = n ↔ Acyc K n := ⟨counted_sound, counted_all hK⟩

end

end

section


open Go.RowKit

structure Gr where
  sl : List Sl
  ks : List (List (Int × Int))

def kof (ks : List (List (Int × Int))) (i : Nat) : List Nat := (nth [] ks i).map fun h => h.1.toNat

def rowOk (sl : List Sl) (i : Nat) (r : List (Int × Int)) : Bool := decide (r.length ≤ 16) && ((decide (r.length = 0) || (nth dSl sl i).live) && r.all fun h => heldIn sl h.1 h.2)

def rowsOk (g : Gr) : Bool := (List.range g.ks.length).all fun i => rowOk g.sl i (nth [] g.ks i)

def looseB (g : Gr) : Bool := decide (cnt (countedL (kof g.ks) g.ks.length) = g.ks.length)

def grOk (g : Gr) : Bool := (arOk g.sl && decide (g.ks.length = g.sl.length)) && (rowsOk g && looseB g)

def grErr (g : Gr) : Int := if grOk g = true then 0 else 8

def askErr (g : Gr) (h i : Int × Int) : Int := if grOk g = true then (if heldIn g.sl h.1 h.2 = true ∧ heldIn g.sl i.1 i.2 = true then 0 else 50) else 8

def makeGErr (g : Gr) : Int := if grOk g = true then mkErr g.sl else 8

def makeG (g : Gr) : Gr := ⟨mkList g.sl, if g.ks.length < (mkList g.sl).length then g.ks ++ [[]] else g.ks⟩

def without (h : Int × Int) (l : List (Int × Int)) : List (Int × Int) := l.filter fun x => !decide (x = h)

def killG (g : Gr) (h : Int × Int) : Gr := ⟨killList g.sl h.1, (g.ks.map (without h)).set h.1.toNat []⟩

def rowAt (g : Gr) (h : Int × Int) : List (Int × Int) := nth [] g.ks h.1.toNat

def reachB (g : Gr) (a b : Int × Int) : Bool := nth false (below (kof g.ks) g.ks.length a.1.toNat) b.1.toNat

def put (r : List (Int × Int)) (k : Nat) (c : Int × Int) : List (Int × Int) := r.take k ++ c :: r.drop k

def cut (r : List (Int × Int)) (k : Nat) : List (Int × Int) := r.take k ++ r.drop (k + 1)

def linkErr (g : Gr) (p c : Int × Int) (k : Int) : Int :=
  if askErr g p c = 0 then (if 0 ≤ k ∧ k ≤ (rowAt g p).length then (if 16 ≤ (rowAt g p).length then 9 else if reachB g c p = true then 60 else 0) else 2) else askErr g p c

def linkG (g : Gr) (p c : Int × Int) (k : Int) : Gr := ⟨g.sl, g.ks.set p.1.toNat (put (rowAt g p) k.toNat c)⟩

def unlinkErr (g : Gr) (p : Int × Int) (k : Int) : Int :=
  if askErr g p p = 0 then (if 0 ≤ k ∧ k < (rowAt g p).length then 0 else 2) else askErr g p p

def unlinkG (g : Gr) (p : Int × Int) (k : Int) : Gr := ⟨g.sl, g.ks.set p.1.toNat (cut (rowAt g p) k.toNat)⟩

def parentsTo (g : Gr) (h : Int × Int) : Nat → List (Int × Int)
  | 0 => []
  | k + 1 => parentsTo g h k ++ ((nth [] g.ks k).filter fun x => decide (x = h)).map fun _ => ((k : Int), (nth dSl g.sl k).gen)

theorem gr_parts {g : Gr} (h : grOk g = true) : arOk g.sl = true ∧ g.ks.length = g.sl.length ∧ rowsOk g = true ∧ looseB g = true := by
  simp only [grOk, Bool.and_eq_true, decide_eq_true_eq] at h
  exact ⟨h.1.1, h.1.2, h.2.1, h.2.2⟩

theorem gr_mk {g : Gr} (h1 : arOk g.sl = true) (h2 : g.ks.length = g.sl.length) (h3 : rowsOk g = true) (h4 : looseB g = true) : grOk g = true := by
  simp only [grOk, Bool.and_eq_true, decide_eq_true_eq]
  exact ⟨⟨h1, h2⟩, h3, h4⟩

theorem rows_at {g : Gr} (h : rowsOk g = true) {i : Nat} (hi : i < g.ks.length) : (nth [] g.ks i).length ≤ 16 ∧ ((nth [] g.ks i).length = 0 ∨ (nth dSl g.sl i).live = true) ∧ ∀ x, x ∈ nth [] g.ks i → heldIn g.sl x.1 x.2 = true := by
  have := List.all_eq_true.1 h i (List.mem_range.2 hi)
  simp only [rowOk, Bool.and_eq_true, Bool.or_eq_true, decide_eq_true_eq, List.all_eq_true] at this
  exact this

theorem rows_mk {g : Gr} (h : ∀ i, i < g.ks.length → (nth [] g.ks i).length ≤ 16 ∧ ((nth [] g.ks i).length = 0 ∨ (nth dSl g.sl i).live = true) ∧ ∀ x, x ∈ nth [] g.ks i → heldIn g.sl x.1 x.2 = true) : rowsOk g = true := by
  refine List.all_eq_true.2 fun i hi => ?_
  simp only [rowOk, Bool.and_eq_true, Bool.or_eq_true, decide_eq_true_eq, List.all_eq_true]
  exact h i (List.mem_range.1 hi)

theorem kof_mem {ks : List (List (Int × Int))} {i c : Nat} : c ∈ kof ks i ↔ ∃ x, x ∈ nth [] ks i ∧ x.1.toNat = c := by
  simp [kof]

theorem held_lt {l : List Sl} {s g : Int} (h : heldIn l s g = true) : s.toNat < l.length ∧ 0 ≤ s := by
  have := held_spec.1 h
  omega

theorem kof_lt {g : Gr} (h2 : g.ks.length = g.sl.length) (h3 : rowsOk g = true) : ∀ i, i < g.ks.length → ∀ c, c ∈ kof g.ks i → c < g.ks.length := by
  intro i hi c hc
  obtain ⟨x, hx, rfl⟩ := kof_mem.1 hc
  have := held_lt ((rows_at h3 hi).2.2 x hx)
  omega

theorem loose_iff {g : Gr} (h2 : g.ks.length = g.sl.length) (h3 : rowsOk g = true) : looseB g = true ↔ Acyc (kof g.ks) g.ks.length := by
  unfold looseB
  rw [decide_eq_true_eq]
  exact counted_iff (kof_lt h2 h3)

theorem gr_acyc {g : Gr} (h : grOk g = true) : Acyc (kof g.ks) g.ks.length := by
  obtain ⟨_, h2, h3, h4⟩ := gr_parts h
  exact (loose_iff h2 h3).1 h4

theorem reachB_iff {g : Gr} (h : grOk g = true) {a b : Int × Int} (ha : heldIn g.sl a.1 a.2 = true) : reachB g a b = true ↔ Reach (kof g.ks) a.1.toNat b.1.toNat := by
  obtain ⟨_, h2, h3, _⟩ := gr_parts h
  exact below_spec (kof_lt h2 h3) (by have := held_lt ha; omega) _

theorem nth_map {α β : Type} {d : α} {e : β} {f : α → β} (hd : f d = e) (l : List α) (k : Nat) : nth e (l.map f) k = f (nth d l k) := by
  unfold nth
  simp only [List.getD_eq_getElem?_getD, List.getElem?_map]
  cases l[k]? with
  | none => simp [hd]
  | some x => simp

theorem put_mem {r : List (Int × Int)} {k : Nat} {c x : Int × Int} (h : x ∈ put r k c) : x ∈ r ∨ x = c := by
  unfold put at h
  rcases List.mem_append.1 h with h | h
  · exact .inl (List.mem_of_mem_take h)
  · rcases List.mem_cons.1 h with h | h
    · exact .inr h
    · exact .inl (List.mem_of_mem_drop h)

theorem put_len {r : List (Int × Int)} {k : Nat} {c : Int × Int} (hk : k ≤ r.length) : (put r k c).length = r.length + 1 := by
  unfold put
  rw [List.length_append, List.length_take, List.length_cons, List.length_drop]
  omega

theorem cut_mem {r : List (Int × Int)} {k : Nat} {x : Int × Int} (h : x ∈ cut r k) : x ∈ r := by
  unfold cut at h
  rcases List.mem_append.1 h with h | h
  · exact List.mem_of_mem_take h
  · exact List.mem_of_mem_drop h

theorem cut_len {r : List (Int × Int)} {k : Nat} : (cut r k).length ≤ r.length := by
  unfold cut
  rw [List.length_append, List.length_take, List.length_drop]
  omega

theorem link_parts {g : Gr} {p c : Int × Int} {k : Int} (h : linkErr g p c k = 0) : grOk g = true ∧ heldIn g.sl p.1 p.2 = true ∧ heldIn g.sl c.1 c.2 = true ∧ 0 ≤ k ∧ k ≤ (rowAt g p).length ∧ (rowAt g p).length < 16 ∧ reachB g c p = false := by
  unfold linkErr at h
  split at h
  · rename_i h1
    unfold askErr at h1
    split at h1
    · rename_i hg
      split at h1
      · rename_i hh
        split at h
        · rename_i hk
          split at h
          · cases h
          · rename_i h16
            split at h
            · cases h
            · rename_i hr
              exact ⟨hg, hh.1, hh.2, hk.1, hk.2, by omega, by simpa using hr⟩
        · cases h
      · cases h1
    · cases h1
  · rename_i h1
    exact absurd h h1

theorem set_rows {g : Gr} {p : Nat} {r : List (Int × Int)} (h : grOk g = true) (hp : p < g.ks.length) (hl : r.length ≤ 16) (hv : (nth dSl g.sl p).live = true) (hh : ∀ x, x ∈ r → heldIn g.sl x.1 x.2 = true) : rowsOk ⟨g.sl, g.ks.set p r⟩ = true := by
  obtain ⟨_, _, h3, _⟩ := gr_parts h
  refine rows_mk fun i hi => ?_
  simp only [List.length_set] at hi ⊢
  rw [nth_set' hp]
  split
  · rename_i e; subst e; exact ⟨hl, .inr hv, hh⟩
  · exact rows_at h3 hi

theorem linkG_ok {g : Gr} {p c : Int × Int} {k : Int} (h : linkErr g p c k = 0) : grOk (linkG g p c k) = true := by
  obtain ⟨hg, hp, hc, k0, k1, h16, hr⟩ := link_parts h
  obtain ⟨h1, h2, h3, h4⟩ := gr_parts hg
  have hpl := held_lt hp
  have hrow := rows_at h3 (i := p.1.toNat) (by omega)
  have hpk : (put (rowAt g p) k.toNat c).length = (rowAt g p).length + 1 := put_len (by omega)
  have hrows : rowsOk (linkG g p c k) = true := set_rows hg (by omega) (by rw [hpk]; omega) (held_spec.1 hp).2.1 (fun x hx => by
    rcases put_mem hx with hx | rfl
    · exact hrow.2.2 x hx
    · exact hc)
  have hlen : (linkG g p c k).ks.length = (linkG g p c k).sl.length := by
    show (g.ks.set _ _).length = g.sl.length
    rw [List.length_set, h2]
  refine gr_mk h1 hlen hrows ((loose_iff hlen hrows).2 ?_)
  rw [show (linkG g p c k).ks.length = g.ks.length by show (g.ks.set _ _).length = _; rw [List.length_set]]
  refine acyc_link (p := p.1.toNat) (x := c.1.toNat) (fun i y hy => ?_) (gr_acyc hg) (fun hre => ?_)
  · obtain ⟨x, hx, rfl⟩ := kof_mem.1 hy
    have hx' : x ∈ nth [] (g.ks.set p.1.toNat (put (rowAt g p) k.toNat c)) i := hx
    rw [nth_set' (by omega)] at hx'
    split at hx'
    · rename_i e
      subst e
      rcases put_mem hx' with h5 | rfl
      · exact .inl (kof_mem.2 ⟨x, h5, rfl⟩)
      · exact .inr ⟨rfl, rfl⟩
    · exact .inl (kof_mem.2 ⟨x, hx', rfl⟩)
  · rw [(reachB_iff hg hc).2 hre] at hr
    cases hr

theorem sub_ok {g : Gr} {ks' : List (List (Int × Int))} (hg : grOk g = true) (hlen : ks'.length = g.ks.length) (hs : ∀ i, (nth [] ks' i).length ≤ (nth [] g.ks i).length ∧ ∀ x, x ∈ nth [] ks' i → x ∈ nth [] g.ks i) : grOk ⟨g.sl, ks'⟩ = true := by
  obtain ⟨h1, h2, h3, h4⟩ := gr_parts hg
  have hrows : rowsOk ⟨g.sl, ks'⟩ = true := rows_mk fun i hi => by
    have hi' : i < ks'.length := hi
    have hr := rows_at h3 (i := i) (by omega)
    have := hs i
    show (nth [] ks' i).length ≤ 16 ∧ ((nth [] ks' i).length = 0 ∨ (nth dSl g.sl i).live = true) ∧ ∀ x, x ∈ nth [] ks' i → heldIn g.sl x.1 x.2 = true
    exact ⟨by omega, hr.2.1.imp (fun e => by omega) id, fun x hx => hr.2.2 x (this.2 x hx)⟩
  have hl2 : (Gr.mk g.sl ks').ks.length = (Gr.mk g.sl ks').sl.length := by show ks'.length = g.sl.length; omega
  refine gr_mk h1 hl2 hrows ((loose_iff hl2 hrows).2 ?_)
  show Acyc (kof ks') ks'.length
  rw [hlen]
  refine acyc_sub (fun i c hc => ?_) (gr_acyc hg)
  obtain ⟨x, hx, rfl⟩ := kof_mem.1 hc
  exact kof_mem.2 ⟨x, (hs i).2 x hx, rfl⟩

theorem unlinkG_ok {g : Gr} {p : Int × Int} {k : Int} (hg : grOk g = true) : grOk (unlinkG g p k) = true := by
  refine sub_ok hg (by rw [List.length_set]) fun i => ?_
  by_cases hp : p.1.toNat < g.ks.length
  · rw [nth_set' hp]
    split
    · rename_i e; subst e; exact ⟨cut_len, fun x hx => cut_mem hx⟩
    · exact ⟨Nat.le_refl _, fun x hx => hx⟩
  · rw [List.set_eq_of_length_le (by omega)]
    exact ⟨Nat.le_refl _, fun x hx => hx⟩

theorem held_kill {l : List Sl} {s g : Int} {x : Int × Int} (h : heldIn l s g = true) (hx : heldIn l x.1 x.2 = true) (hne : x ≠ (s, g)) : heldIn (killList l s) x.1 x.2 = true := by
  obtain ⟨⟨h0, h1⟩, hv, hg⟩ := held_spec.1 h
  obtain ⟨⟨x0, x1⟩, xv, xg⟩ := held_spec.1 hx
  rw [held_spec]
  unfold killList
  rw [List.length_set, nth_set' (by omega)]
  have hn : ¬ x.1.toNat = s.toNat := by
    intro e
    apply hne
    apply Prod.ext
    · show x.1 = s
      omega
    · show x.2 = g
      rw [← xg, ← hg, e]
  rw [if_neg hn]
  exact ⟨⟨x0, x1⟩, xv, xg⟩

theorem kill_row {g : Gr} {h : Int × Int} (hl : h.1.toNat < g.ks.length) (i : Nat) : nth [] (killG g h).ks i = if i = h.1.toNat then [] else without h (nth [] g.ks i) := by
  show nth [] ((g.ks.map (without h)).set h.1.toNat []) i = _
  rw [nth_set' (by rw [List.length_map]; exact hl)]
  split
  · rfl
  · exact nth_map (d := ([] : List (Int × Int))) (e := []) (f := without h) rfl g.ks i

theorem without_mem {h x : Int × Int} {l : List (Int × Int)} : x ∈ without h l ↔ x ∈ l ∧ x ≠ h := by
  simp [without]

theorem killG_ok {g : Gr} {h : Int × Int} (hg : grOk g = true) (hh : heldIn g.sl h.1 h.2 = true) : grOk (killG g h) = true := by
  obtain ⟨h1, h2, h3, h4⟩ := gr_parts hg
  have hl := held_lt hh
  have hlen : (killG g h).ks.length = (killG g h).sl.length := by
    show ((g.ks.map (without h)).set _ _).length = (killList g.sl h.1).length
    rw [List.length_set, List.length_map, killList, List.length_set, h2]
  have hkl : (killG g h).ks.length = g.ks.length := by
    show ((g.ks.map (without h)).set _ _).length = _
    rw [List.length_set, List.length_map]
  have hrows : rowsOk (killG g h) = true := rows_mk fun i hi => by
    rw [hkl] at hi
    have hr := rows_at h3 hi
    rw [kill_row (by omega)]
    split
    · exact ⟨by simp, .inl rfl, fun x hx => by simp at hx⟩
    · rename_i hne
      have hle : (without h (nth [] g.ks i)).length ≤ (nth [] g.ks i).length := List.length_filter_le _ _
      refine ⟨by omega, ?_, fun x hx => held_kill hh (hr.2.2 x (without_mem.1 hx).1) (without_mem.1 hx).2⟩
      rcases hr.2.1 with e | e
      · exact .inl (by omega)
      · right
        show (nth dSl (killList g.sl h.1) i).live = true
        unfold killList
        rw [nth_set' (by omega), if_neg hne]
        exact e
  refine gr_mk (killList_ok h1 (by omega)) hlen hrows ((loose_iff hlen hrows).2 ?_)
  rw [hkl]
  refine acyc_sub (fun i c hc => ?_) (gr_acyc hg)
  obtain ⟨x, hx, rfl⟩ := kof_mem.1 hc
  rw [kill_row (by omega)] at hx
  split at hx
  · simp at hx
  · exact kof_mem.2 ⟨x, (without_mem.1 hx).1, rfl⟩

theorem held_make {l : List Sl} {x : Int × Int} (hx : heldIn l x.1 x.2 = true) : heldIn (mkList l) x.1 x.2 = true := by
  obtain ⟨⟨x0, x1⟩, xv, xg⟩ := held_spec.1 hx
  rw [(mk_other x0 x1 (by omega)).1]
  exact hx

theorem mkList_len (l : List Sl) : (mkList l).length = if freeAt l < l.length then l.length else l.length + 1 := by
  unfold mkList
  split
  · rw [List.length_set]
  · rw [List.length_append]; rfl

theorem makeG_row (g : Gr) (i : Nat) : nth [] (makeG g).ks i = nth [] g.ks i := by
  show nth [] (if g.ks.length < (mkList g.sl).length then g.ks ++ [[]] else g.ks) i = _
  split
  · by_cases hi : i < g.ks.length
    · rw [nth_append_left hi]
    · rw [nth_append_right (by omega), nth_ge (l := g.ks) (by omega)]
      unfold nth
      cases i - g.ks.length with
      | zero => rfl
      | succ k => rfl
  · rfl

theorem makeG_ok {g : Gr} (hg : grOk g = true) (he : mkErr g.sl = 0) : grOk (makeG g) = true := by
  obtain ⟨h1, h2, h3, h4⟩ := gr_parts hg
  have hml := mkList_len g.sl
  have hlen : (makeG g).ks.length = (makeG g).sl.length := by
    show (if g.ks.length < (mkList g.sl).length then g.ks ++ [[]] else g.ks).length = (mkList g.sl).length
    split at hml
    · rw [if_neg (by omega)]; omega
    · rw [if_pos (by omega), List.length_append]; simp; omega
  have hkl : g.ks.length ≤ (makeG g).ks.length := by
    rw [hlen, h2]
    exact mkList_length g.sl
  have hrows : rowsOk (makeG g) = true := rows_mk fun i hi => by
    rw [makeG_row]
    by_cases hin : i < g.ks.length
    · have hr := rows_at h3 hin
      refine ⟨hr.1, ?_, fun x hx => held_make (hr.2.2 x hx)⟩
      rcases hr.2.1 with e | e
      · exact .inl e
      · right
        show (nth dSl (mkList g.sl) i).live = true
        unfold mkList
        split
        · rename_i hf
          rw [nth_set' hf]
          split
          · rfl
          · exact e
        · rw [nth_append_left (by omega)]
          exact e
    · rw [nth_ge (by omega)]
      exact ⟨by simp, .inl rfl, fun x hx => by simp at hx⟩
  refine gr_mk (mkList_ok he) hlen hrows ((loose_iff hlen hrows).2 ?_)
  intro i hi c hc hr
  have hk : ∀ i c, c ∈ kof (makeG g).ks i → c ∈ kof g.ks i := fun i c h => by
    obtain ⟨x, hx, rfl⟩ := kof_mem.1 h
    rw [makeG_row] at hx
    exact kof_mem.2 ⟨x, hx, rfl⟩
  by_cases hin : i < g.ks.length
  · exact gr_acyc hg i hin c (hk i c hc) (reach_sub hk hr)
  · obtain ⟨x, hx, _⟩ := kof_mem.1 (hk i c hc)
    rw [nth_ge (by omega)] at hx
    simp at hx

def countH (l : List (Int × Int)) (h : Int × Int) : Nat := (l.filter fun x => decide (x = h)).length

end

section


open Go.RowKit

end

end Go.Proofs.YtcekcihijdipoaaGreat
