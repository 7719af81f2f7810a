/- The plain mathematics of layer 7: looks, styles, looks on the way down; what a style makes of one; whose value each thing has. -/
import Derived.Test.YthcplebmffbmpaaExt
namespace Go.Proofs.Ythcplebmffbmpaa

structure Lk where
  r : Int
  g : Int
  b : Int
  a : Int
  tx : Int
  cu : Int
  bi : Int
  bl : Bool
  bn : Int
structure Sy where
  s0 : Int
  s1 : Int
  s2 : Int
  s3 : Int
  s4 : Int
  l : Lk
structure Ih where
  l : Lk
  k0 : Bool
  k1 : Bool
  k2 : Bool
  k3 : Bool
  k4 : Bool

/-- a number of eight bits -/
def U8 (n : Int) : Prop := 0 ≤ n ∧ n ≤ 255
structure LkB (l : Lk) : Prop where
  r : U8 l.r
  g : U8 l.g
  b : U8 l.b
  a : U8 l.a
  cu : U8 l.cu
structure SyB (s : Sy) : Prop where
  s0 : U8 s.s0
  s1 : U8 s.s1
  s2 : U8 s.s2
  s3 : U8 s.s3
  s4 : U8 s.s4
  l : LkB s.l

def lk0 : Lk := ⟨0, 0, 0, 0, 0, 0, 0, false, 0⟩
def sy0 : Sy := ⟨0, 0, 0, 0, 0, lk0⟩
def ih0 : Ih := ⟨lk0, false, false, false, false, false⟩
def lkW : Lk := ⟨255, 255, 255, 255, -1, 0, 0, false, 0⟩
def ihW : Ih := ⟨lkW, false, false, false, false, false⟩

def lookOk (l : Lk) : Bool := decide (-1 ≤ l.tx) && (decide (l.tx < 16) && (decide (l.cu ≤ 2) && (decide (-1024 ≤ l.bi) && (decide (l.bi ≤ 1024) && (decide (0 ≤ l.bn) && decide (l.bn ≤ 15))))))
def lookErr (l : Lk) : Int := if lookOk l then 0 else 8
def sayOk (n : Int) : Bool := decide (n = 0) || (decide (n = 1) || (decide (n = 3) || (decide (n = 5) || decide (n = 7))))

/-- the things that a style says -/
def t0 (n : Int) (l o : Lk) : Lk := if n = 0 then l else { l with r := o.r, g := o.g, b := o.b, a := o.a }
def t1 (n : Int) (l o : Lk) : Lk := if n = 0 then l else { l with tx := o.tx }
def t2 (n : Int) (l o : Lk) : Lk := if n = 0 then l else { l with cu := o.cu }
def t3 (n : Int) (l o : Lk) : Lk := if n = 0 then l else { l with bi := o.bi }
def t4 (n : Int) (l o : Lk) : Lk := if n = 0 then l else { l with bl := o.bl, bn := o.bn }
def sd (s : Sy) (l : Lk) : Nat → Lk
  | 0 => t0 s.s0 l s.l
  | 1 => t1 s.s1 l s.l
  | 2 => t2 s.s2 l s.l
  | 3 => t3 s.s3 l s.l
  | _ => t4 s.s4 l s.l
def saidTo (s : Sy) : Nat → Lk
  | 0 => lk0
  | k + 1 => sd s (saidTo s k) k
def said (s : Sy) : Lk := saidTo s 5

def eqC (x y : Lk) : Bool := x.r == y.r && (x.g == y.g && (x.b == y.b && x.a == y.a))
def eqL (x y : Lk) : Bool := eqC x y && (x.tx == y.tx && (x.cu == y.cu && (x.bi == y.bi && (x.bl == y.bl && x.bn == y.bn))))
def eqK (x y : Ih) : Bool := x.k0 == y.k0 && (x.k1 == y.k1 && (x.k2 == y.k2 && (x.k3 == y.k3 && x.k4 == y.k4)))
def eqIh (x y : Ih) : Bool := eqL x.l y.l && eqK x y
theorem eqC_refl (x : Lk) : eqC x x = true := by simp [eqC]
theorem eqL_refl (x : Lk) : eqL x x = true := by simp [eqL, eqC]
theorem eqIh_refl (x : Ih) : eqIh x x = true := by simp [eqIh, eqK, eqL_refl]
theorem eqL_iff {x y : Lk} : eqL x y = true ↔ x = y := by
  constructor
  · intro h
    obtain ⟨r, g, b, a, t, c, i, l, n⟩ := x
    obtain ⟨r2, g2, b2, a2, t2, c2, i2, l2, n2⟩ := y
    simp [eqL, eqC] at h
    obtain ⟨⟨h1, h2, h3, h4⟩, h5, h6, h7, h8, h9⟩ := h
    subst h1 h2 h3 h4 h5 h6 h7 h8 h9
    rfl
  · rintro rfl
    exact eqL_refl x

def saysOk (s : Sy) : Bool := sayOk s.s0 && (sayOk s.s1 && (sayOk s.s2 && (sayOk s.s3 && sayOk s.s4)))
def styOk (s : Sy) : Bool := saysOk s && (lookOk s.l && eqL (said s) s.l)
def styErr (s : Sy) : Int := if styOk s then 0 else 8
def noSay (s : Sy) : Bool := s.s0 == 0 && (s.s1 == 0 && (s.s2 == 0 && (s.s3 == 0 && s.s4 == 0)))

/-- does a thing that is kept so take what is said so? -/
def takes (n : Int) (k : Bool) : Bool := !(n == 0) && (!k || decide (4 ≤ n))
def overs (n : Int) : Bool := n == 3 || n == 7
def u0 (i : Ih) (s : Sy) : Ih := if takes s.s0 i.k0 then { i with l := { i.l with r := s.l.r, g := s.l.g, b := s.l.b, a := s.l.a }, k0 := overs s.s0 } else i
def u1 (i : Ih) (s : Sy) : Ih := if takes s.s1 i.k1 then { i with l := { i.l with tx := s.l.tx }, k1 := overs s.s1 } else i
def u2 (i : Ih) (s : Sy) : Ih := if takes s.s2 i.k2 then { i with l := { i.l with cu := s.l.cu }, k2 := overs s.s2 } else i
def u3 (i : Ih) (s : Sy) : Ih := if takes s.s3 i.k3 then { i with l := { i.l with bi := s.l.bi }, k3 := overs s.s3 } else i
def u4 (i : Ih) (s : Sy) : Ih := if takes s.s4 i.k4 then { i with l := { i.l with bl := s.l.bl, bn := s.l.bn }, k4 := overs s.s4 } else i
def mk (i : Ih) (s : Sy) : Nat → Ih
  | 0 => u0 i s
  | 1 => u1 i s
  | 2 => u2 i s
  | 3 => u3 i s
  | _ => u4 i s
def madeTo (i : Ih) (s : Sy) : Nat → Ih
  | 0 => i
  | k + 1 => mk (madeTo i s k) s k
def made (i : Ih) (s : Sy) : Ih := madeTo i s 5

def underOk (i : Ih) (s : Sy) : Bool := lookOk i.l && styOk s
def underErr (i : Ih) (s : Sy) : Int := if underOk i s then 0 else 8
def under (i : Ih) (s : Sy) : Ih := if underOk i s then made i s else ih0

theorem sayOk_iff {n : Int} : sayOk n = true ↔ n = 0 ∨ n = 1 ∨ n = 3 ∨ n = 5 ∨ n = 7 := by simp [sayOk]
theorem saysOk_iff {s : Sy} : saysOk s = true ↔ sayOk s.s0 = true ∧ sayOk s.s1 = true ∧ sayOk s.s2 = true ∧ sayOk s.s3 = true ∧ sayOk s.s4 = true := by simp [saysOk]

end Go.Proofs.Ythcplebmffbmpaa
