/- A pack of texts: EdLay, Fixed, Fixed2, Fixed3, Vec1, VecEq, TxEq, StEq, EdEq. -/
import Derived.Test.YtcekcihijdipoaaGreatChecked
import Derived.Handy
import Derived.Test.YtcekcihijdipoaaGreatProg
import Derived.Laws.StructEq
import Derived.Test.YtcekcihijdipoaaGreatPN1
import Derived.Test.YtcekcihijdipoaaGreatPN3
import Derived.Test.YtcekcihijdipoaaGreatPN2
namespace Go.Proofs.YtcekcihijdipoaaGreat

section


open Go.RowKit

structure NF where
  kind : Int
  m : Mt
  on : Int
  cen : V3
  mesh : Int
  sty : Sy

def nf0 : NF := ⟨0, zeroM, 0, zeroV, 0, sy0⟩

structure Nd where
  f : NF
  far : List Int

def nd0 : Nd := ⟨nf0, []⟩

structure NH where
  f : NF
  ao : Option Addr
  n : Nat
  cap : Nat

def nh0 : NH := ⟨nf0, none, 0, 0⟩

def fN (h : NH) : List Value := .int .u8 h.f.kind :: .int .i64 h.f.m.m.a.x :: .int .i64 h.f.m.m.a.y :: .int .i64 h.f.m.m.a.z :: .int .i64 h.f.m.m.b.x :: .int .i64 h.f.m.m.b.y :: .int .i64 h.f.m.m.b.z :: .int .i64 h.f.m.m.c.x :: .int .i64 h.f.m.m.c.y :: .int .i64 h.f.m.m.c.z :: .int .i64 h.f.m.t.x :: .int .i64 h.f.m.t.y :: .int .i64 h.f.m.t.z :: .int .u16 h.f.on :: .int .i64 h.f.cen.x :: .int .i64 h.f.cen.y :: .int .i64 h.f.cen.z :: .slice h.ao h.n h.cap :: .int .i64 h.f.mesh :: .int .u8 h.f.sty.s0 :: .int .u8 h.f.sty.s1 :: .int .u8 h.f.sty.s2 :: .int .u8 h.f.sty.s3 :: .int .u8 h.f.sty.s4 :: .int .u8 h.f.sty.l.r :: .int .u8 h.f.sty.l.g :: .int .u8 h.f.sty.l.b :: .int .u8 h.f.sty.l.a :: .int .i64 h.f.sty.l.tx :: .int .u8 h.f.sty.l.cu :: .int .i64 h.f.sty.l.bi :: .bool h.f.sty.l.bl :: .int .i64 h.f.sty.l.bn :: []

def vN (h : NH) : Value := .agg (List.toArray (.int .u8 h.f.kind :: .int .i64 h.f.m.m.a.x :: .int .i64 h.f.m.m.a.y :: .int .i64 h.f.m.m.a.z :: .int .i64 h.f.m.m.b.x :: .int .i64 h.f.m.m.b.y :: .int .i64 h.f.m.m.b.z :: .int .i64 h.f.m.m.c.x :: .int .i64 h.f.m.m.c.y :: .int .i64 h.f.m.m.c.z :: .int .i64 h.f.m.t.x :: .int .i64 h.f.m.t.y :: .int .i64 h.f.m.t.z :: .int .u16 h.f.on :: .int .i64 h.f.cen.x :: .int .i64 h.f.cen.y :: .int .i64 h.f.cen.z :: .slice h.ao h.n h.cap :: .int .i64 h.f.mesh :: .int .u8 h.f.sty.s0 :: .int .u8 h.f.sty.s1 :: .int .u8 h.f.sty.s2 :: .int .u8 h.f.sty.s3 :: .int .u8 h.f.sty.s4 :: .int .u8 h.f.sty.l.r :: .int .u8 h.f.sty.l.g :: .int .u8 h.f.sty.l.b :: .int .u8 h.f.sty.l.a :: .int .i64 h.f.sty.l.tx :: .int .u8 h.f.sty.l.cu :: .int .i64 h.f.sty.l.bi :: .bool h.f.sty.l.bl :: .int .i64 h.f.sty.l.bn :: []))

theorem fN_c : ∀ x, (fN x).length = 33 := fun _ => rfl

theorem fN_1 : ∀ x, ∀ u ∈ fN x, u.oneCell' = true := by
  intro x u hu
  simp only [fN, List.mem_cons, List.not_mem_nil, or_false] at hu
  rcases hu with rfl | rfl | rfl | rfl | rfl | rfl | rfl | rfl | rfl | rfl | rfl | rfl | rfl | rfl | rfl | rfl | rfl | rfl | rfl | rfl | rfl | rfl | rfl | rfl | rfl | rfl | rfl | rfl | rfl | rfl | rfl | rfl | rfl <;> rfl

structure NfB (f : NF) : Prop where
  kind : 0 ≤ f.kind ∧ f.kind ≤ 255
  on : 0 ≤ f.on ∧ f.on ≤ 65535
  sty : SyB f.sty

structure NodeAt (w : World) (h : NH) (n : Nd) : Prop where
  f : h.f = n.f
  b : NfB n.f
  le : h.n ≤ 9223372036854775807
  cap : h.n ≤ h.cap
  nil : h.ao = none → h.n = 0 ∧ h.cap = 0
  lay : Lay fI w h.ao h.n n.far

theorem NodeAt.ex {w w' : World} {h : NH} {n : Nd} (a : NodeAt w h n) (hw : ∃ x, w' = plus w x) : NodeAt w' h n := ⟨a.f, a.b, a.le, a.cap, a.nil, a.lay.ex hw⟩

structure NodesAt (w : World) (hs : List NH) (ns : List Nd) : Prop where
  len : hs.length = ns.length
  one : ∀ k, k < hs.length → NodeAt w (nth nh0 hs k) (nth nd0 ns k)

theorem NodesAt.ex {w w' : World} {hs : List NH} {ns : List Nd} (a : NodesAt w hs ns) (hw : ∃ x, w' = plus w x) : NodesAt w' hs ns := ⟨a.len, fun k hk => (a.one k hk).ex hw⟩

def fMh (h : MH) : List Value := [.slice h.va h.vn h.vc, .slice h.ua h.un h.uc, .slice h.pa h.pn h.pc]

def mh0 : MH := ⟨none, 0, 0, none, 0, 0, none, 0, 0⟩

def ms0 : Ms := ⟨[], [], []⟩

theorem fMh_c : ∀ x, (fMh x).length = 3 := fun _ => rfl

theorem fMh_1 : ∀ x, ∀ u ∈ fMh x, u.oneCell' = true := by intro x u hu; simp only [fMh, List.mem_cons, List.not_mem_nil, or_false] at hu; rcases hu with rfl | rfl | rfl <;> rfl

theorem cellMh {w : World} {g off n k : Nat} {l : List MH} (hl : l.length = n) (h : ∀ j u, (l.flatMap fMh)[j]? = some u → w.cell? ⟨g, off + j, none⟩ = some u) (hk : k < n) :
    w.cell? ⟨g, off + k * 3, none⟩ = some (.slice (nth mh0 l k).va (nth mh0 l k).vn (nth mh0 l k).vc) ∧ w.cell? ⟨g, off + k * 3 + 1, none⟩ = some (.slice (nth mh0 l k).ua (nth mh0 l k).un (nth mh0 l k).uc) ∧ w.cell? ⟨g, off + k * 3 + 2, none⟩ = some (.slice (nth mh0 l k).pa (nth mh0 l k).pn (nth mh0 l k).pc) := by
  have h0 := cell_nth (d := mh0) hl fMh_c h k 0 _ hk (by decide) rfl
  have h1 := cell_nth (d := mh0) hl fMh_c h k 1 _ hk (by decide) rfl
  have h2 := cell_nth (d := mh0) hl fMh_c h k 2 _ hk (by decide) rfl
  rw [Nat.add_zero] at h0
  rw [← Nat.add_assoc] at h1 h2
  exact ⟨h0, h1, h2⟩

structure MeshesAt (w : World) (hs : List MH) (ps : List (List PH)) (ms : List Ms) : Prop where
  len : hs.length = ms.length
  one : ∀ k, k < hs.length → MeshAt w (nth mh0 hs k) (nth [] ps k) (nth ms0 ms k)

theorem MeshesAt.ex {w w' : World} {hs : List MH} {ps : List (List PH)} {ms : List Ms} (a : MeshesAt w hs ps ms) (hw : ∃ x, w' = plus w x) : MeshesAt w' hs ps ms := ⟨a.len, fun k hk => (a.one k hk).ex hw⟩

structure Tp where
  w : Int
  h : Int
  l : List Cl

def tp0 : Tp := ⟨0, 0, []⟩

structure TexAt (w : World) (h : TH) (t : Tp) : Prop where
  we : h.w = t.w
  he : h.h = t.h
  tx : TxAt w h t.l

theorem TexAt.ex {w w' : World} {h : TH} {t : Tp} (a : TexAt w h t) (hw : ∃ x, w' = plus w x) : TexAt w' h t := ⟨a.we, a.he, a.tx.ex hw⟩

structure TexsAt (w : World) (hs : List TH) (ts : List Tp) : Prop where
  len : hs.length = ts.length
  one : ∀ k, k < hs.length → TexAt w (nth th0 hs k) (nth tp0 ts k)

theorem TexsAt.ex {w w' : World} {hs : List TH} {ts : List Tp} (a : TexsAt w hs ts) (hw : ∃ x, w' = plus w x) : TexsAt w' hs ts := ⟨a.len, fun k hk => (a.one k hk).ex hw⟩

structure Sc where
  g : Gr
  ns : List Nd
  ms : List Ms
  ts : List Tp
  root : Int × Int

def sc0 : Sc := ⟨⟨[], []⟩, [], [], [], (0, 0)⟩

structure SH where
  ga : Option Addr
  gn : Nat
  gc : Nat
  ka : Option Addr
  kn : Nat
  kc : Nat
  na : Option Addr
  nn : Nat
  nc : Nat
  ma : Option Addr
  mn : Nat
  mc : Nat
  ta : Option Addr
  tn : Nat
  tc : Nat
  r0 : Int
  r1 : Int

def vS (h : SH) : Value := .agg #[.slice h.ga h.gn h.gc, .slice h.ka h.kn h.kc, .slice h.na h.nn h.nc, .slice h.ma h.mn h.mc, .slice h.ta h.tn h.tc, .int .i64 h.r0, .int .i64 h.r1]

structure SX where
  gr : List RH
  nh : List NH
  mh : List MH
  ph : List (List PH)
  th : List TH

structure RestAt (w : World) (h : SH) (x : SX) (s : Sc) : Prop where
  nl : Lay fN w h.na h.nn x.nh
  ns : NodesAt w x.nh s.ns
  ml : Lay fMh w h.ma h.mn x.mh
  ms : MeshesAt w x.mh x.ph s.ms
  tl : Lay fTh w h.ta h.tn x.th
  ts : TexsAt w x.th s.ts
  n1 : h.nn ≤ 9223372036854775807
  n2 : h.mn ≤ 9223372036854775807
  n3 : h.tn ≤ 9223372036854775807
  root : s.root = (h.r0, h.r1)

theorem RestAt.ex {w w' : World} {h : SH} {x : SX} {s : Sc} (a : RestAt w h x s) (hw : ∃ y, w' = plus w y) : RestAt w' h x s :=
  ⟨a.nl.ex hw, a.ns.ex hw, a.ml.ex hw, a.ms.ex hw, a.tl.ex hw, a.ts.ex hw, a.n1, a.n2, a.n3, a.root⟩

end

section


open Go.RowKit

set_option linter.unusedSimpArgs false

attribute [local go_sem] plus_size plus_drew dn_set dn_alloc dn_plus plus_dn cell_plus frozen_plus set_plus cell_alloc frozen_alloc set_alloc

theorem ret_int {k : IntKind} {a b : Int} (h : a = b) : Ending.returned (.int k a) = .returned (.int k b) := by rw [h]

def flo (a b : Int) : Int × Int := if 1 ≤ b then (a / b, 0) else (0, 2)

def cei (a b : Int) : Int × Int := if 1 ≤ b then (up a b, 0) else (0, 2)

end

section


open Go.RowKit

set_option linter.unusedSimpArgs false

attribute [local go_sem] plus_size plus_drew dn_set dn_alloc dn_plus plus_dn cell_plus frozen_plus set_plus cell_alloc frozen_alloc set_alloc

end

section


open Go.RowKit

set_option linter.unusedSimpArgs false

attribute [local go_sem] plus_size plus_drew dn_set dn_alloc dn_plus plus_dn cell_plus frozen_plus set_plus cell_alloc frozen_alloc set_alloc

end

section


open Go.RowKit Go.ChangeShapes Go.WideShapes Go.ChangeAt

set_option linter.unusedSimpArgs false

set_option linter.unusedVariables false

attribute [local go_sem] plus_size plus_drew dn_set dn_alloc dn_plus plus_dn cell_plus frozen_plus set_plus cell_alloc frozen_alloc set_alloc

@[local go_sem] theorem ix3_0 (a b c : Value) (w : World) : (Instr.index 40 (.agg #[a, b, c]) (.int .i64 0)).run Tryz.prog w = .ok a w := by kernel_rfl

@[local go_sem] theorem ix3_1 (a b c : Value) (w : World) : (Instr.index 40 (.agg #[a, b, c]) (.int .i64 1)).run Tryz.prog w = .ok b w := by kernel_rfl

@[local go_sem] theorem ix3_2 (a b c : Value) (w : World) : (Instr.index 40 (.agg #[a, b, c]) (.int .i64 2)).run Tryz.prog w = .ok c w := by kernel_rfl

@[local go_sem] theorem ix9_0 (a b c d e f g h i : Value) (w : World) : (Instr.index 41 (.agg #[a, b, c, d, e, f, g, h, i]) (.int .i64 0)).run Tryz.prog w = .ok (.agg #[a, b, c]) w := by kernel_rfl

@[local go_sem] theorem ix9_1 (a b c d e f g h i : Value) (w : World) : (Instr.index 41 (.agg #[a, b, c, d, e, f, g, h, i]) (.int .i64 1)).run Tryz.prog w = .ok (.agg #[d, e, f]) w := by kernel_rfl

@[local go_sem] theorem ix9_2 (a b c d e f g h i : Value) (w : World) : (Instr.index 41 (.agg #[a, b, c, d, e, f, g, h, i]) (.int .i64 2)).run Tryz.prog w = .ok (.agg #[g, h, i]) w := by kernel_rfl

theorem allWithin_calls (a b c l : Int) (h0 : 0 ≤ l) (h1 : l ≤ 1000000) (w : World) :
    Calls Tryz.prog 148 #[.agg #[.int .i64 a, .int .i64 b, .int .i64 c], .int .i64 l] w fun e w' => e = .returned (.bool (all3 ⟨a, b, c⟩ l)) ∧ Below w.heap.size w w' := by
  rcases within_or a l with ⟨a1, a2, a3⟩ | ⟨a1, a3⟩ | ⟨a1, a2, a3⟩
  · rcases within_or b l with ⟨b1, b2, b3⟩ | ⟨b1, b3⟩ | ⟨b1, b2, b3⟩
    · rcases within_or c l with ⟨c1, c2, c3⟩ | ⟨c1, c3⟩ | ⟨c1, c2, c3⟩
      all_goals
        rw [all3, a3, b3, c3]
        clear a3 b3 c3
        go_enter Tryz.func148, Tryz.ntmps148
        go_wp2
        go_rounds 4
        go_ret
        exact ⟨rfl, skB⟩
    all_goals
      rw [all3, a3, b3]
      clear a3 b3
      go_enter Tryz.func148, Tryz.ntmps148
      go_wp2
      go_rounds 4
      go_ret
      exact ⟨rfl, skB⟩
  all_goals
    rw [all3, a3]
    clear a3
    go_enter Tryz.func148, Tryz.ntmps148
    go_wp2
    go_rounds 4
    go_ret
    exact ⟨rfl, skB⟩

theorem numbers_calls (x y z : Int) (w : World) :
    Calls Tryz.prog 149 #[.agg #[.int .i64 x, .int .i64 y, .int .i64 z]] w fun e w' => e = .returned (.agg #[.int .i64 x, .int .i64 y, .int .i64 z]) ∧ Below w.heap.size w w' := by
  go_enter Tryz.func149, Tryz.ntmps149
  go_wp2
  exact bodyPost_ret (v := .agg #[.int .i64 x, .int .i64 y, .int .i64 z]) (by simp [results, Tryz.results149, go_sem, ↓IntWalk.iteOmega]) rfl ⟨rfl, skB⟩

theorem rowsWithin_calls (a b c d o f g u i l : Int) (h0 : 0 ≤ l) (h1 : l ≤ 1000000) (w : World) :
    Calls Tryz.prog 147 #[.agg #[.int .i64 a, .int .i64 b, .int .i64 c, .int .i64 d, .int .i64 o, .int .i64 f, .int .i64 g, .int .i64 u, .int .i64 i], .int .i64 l] w fun e w' => e = .returned (.bool (all9 ⟨⟨a, b, c⟩, ⟨d, o, f⟩, ⟨g, u, i⟩⟩ l)) ∧ Below w.heap.size w w' := by
  cases r1 : all3 ⟨a, b, c⟩ l
  · rw [show all9 ⟨⟨a, b, c⟩, ⟨d, o, f⟩, ⟨g, u, i⟩⟩ l = false by simp [all9, r1]]
    go_enter Tryz.func147, Tryz.ntmps147
    go_wp2
    refine wp_loop_rounds 4 ?_
    repeat any_goals (rw [rounds_succ]; go_wp2_with (go_at_call 148; refine (plus_post (allWithin_calls _ _ _ _ (by omega) (by omega) _)).mono ?_; rintro e w' ⟨rfl, nx, rfl⟩))
    go_ret
    exact ⟨rfl, skB⟩
  · cases r2 : all3 ⟨d, o, f⟩ l
    · rw [show all9 ⟨⟨a, b, c⟩, ⟨d, o, f⟩, ⟨g, u, i⟩⟩ l = false by simp [all9, r2]]
      go_enter Tryz.func147, Tryz.ntmps147
      go_wp2
      refine wp_loop_rounds 4 ?_
      repeat any_goals (rw [rounds_succ]; go_wp2_with (go_at_call 148; refine (plus_post (allWithin_calls _ _ _ _ (by omega) (by omega) _)).mono ?_; rintro e w' ⟨rfl, nx, rfl⟩))
      go_ret
      exact ⟨rfl, skB⟩
    · cases r3 : all3 ⟨g, u, i⟩ l
      · rw [show all9 ⟨⟨a, b, c⟩, ⟨d, o, f⟩, ⟨g, u, i⟩⟩ l = false by simp [all9, r3]]
        go_enter Tryz.func147, Tryz.ntmps147
        go_wp2
        refine wp_loop_rounds 4 ?_
        repeat any_goals (rw [rounds_succ]; go_wp2_with (go_at_call 148; refine (plus_post (allWithin_calls _ _ _ _ (by omega) (by omega) _)).mono ?_; rintro e w' ⟨rfl, nx, rfl⟩))
        go_ret
        exact ⟨rfl, skB⟩
      · rw [show all9 ⟨⟨a, b, c⟩, ⟨d, o, f⟩, ⟨g, u, i⟩⟩ l = true by simp [all9, r1, r2, r3]]
        go_enter Tryz.func147, Tryz.ntmps147
        go_wp2
        refine wp_loop_rounds 4 ?_
        repeat any_goals (rw [rounds_succ]; go_wp2_with (go_at_call 148; refine (plus_post (allWithin_calls _ _ _ _ (by omega) (by omega) _)).mono ?_; rintro e w' ⟨rfl, nx, rfl⟩))
        go_ret
        exact ⟨rfl, skB⟩

end

section


open Go.RowKit Go.ChangeShapes Go.WideShapes Go.ChangeAt

set_option linter.unusedSimpArgs false

set_option linter.unusedVariables false

attribute [local go_sem] plus_size plus_drew dn_set dn_alloc dn_plus plus_dn cell_plus frozen_plus set_plus cell_alloc frozen_alloc set_alloc

theorem eq3 (n : Nat) (a b c a2 b2 c2 : Int) (w : World) : (Op.equalIn (n + 1 + 1) 40 (.agg #[.int .i64 a, .int .i64 b, .int .i64 c]) (.agg #[.int .i64 a2, .int .i64 b2, .int .i64 c2])).run Tryz.prog w = .ok (a == a2 && (b == b2 && c == c2)) w := by
  have u3 := Tryz.underlying3
  have a3 := Tryz.isAgg3
  have z3 := Tryz.sizeOf3
  rw [Op.equalIn]
  simp only [Sem.run_bind, run_underlying Tryz.underlying40, Result.andThen_ok]
  simp only [Std.Legacy.Range.forIn_eq_forIn_range', Std.Legacy.Range.size, Nat.sub_zero, Nat.add_sub_cancel, Nat.div_one, List.range'_succ, List.range'_zero, List.forIn_cons, List.forIn_nil]
  go_simp
  by_cases h1 : a = a2 <;> by_cases h2 : b = b2 <;> by_cases h3 : c = c2 <;> simp [h1, h2, h3]

theorem eq9 (n : Nat) (a b c d o f g u i a2 b2 c2 d2 o2 f2 g2 u2 i2 : Int) (w : World) : (Op.equalIn (n + 1 + 1 + 1) 41 (.agg #[.int .i64 a, .int .i64 b, .int .i64 c, .int .i64 d, .int .i64 o, .int .i64 f, .int .i64 g, .int .i64 u, .int .i64 i]) (.agg #[.int .i64 a2, .int .i64 b2, .int .i64 c2, .int .i64 d2, .int .i64 o2, .int .i64 f2, .int .i64 g2, .int .i64 u2, .int .i64 i2])).run Tryz.prog w =
    .ok ((a == a2 && (b == b2 && c == c2)) && ((d == d2 && (o == o2 && f == f2)) && (g == g2 && (u == u2 && i == i2)))) w := by
  have u3 := Tryz.underlying40
  have a3 := Tryz.isAgg40
  have z3 := Tryz.sizeOf40
  rw [Op.equalIn]
  simp only [Sem.run_bind, run_underlying Tryz.underlying41, Result.andThen_ok]
  simp only [Std.Legacy.Range.forIn_eq_forIn_range', Std.Legacy.Range.size, Nat.sub_zero, Nat.add_sub_cancel, Nat.div_one, List.range'_succ, List.range'_zero, List.forIn_cons, List.forIn_nil]
  have e1 := eq3 n a b c a2 b2 c2
  have e2 := eq3 n d o f d2 o2 f2
  have e3 := eq3 n g u i g2 u2 i2
  generalize (a == a2 && (b == b2 && c == c2)) = k1 at *
  generalize (d == d2 && (o == o2 && f == f2)) = k2 at *
  generalize (g == g2 && (u == u2 && i == i2)) = k3 at *
  go_simp
  cases k1 <;> cases k2 <;> cases k3 <;> simp

end

section


open Go.RowKit Go.ChangeShapes Go.WideShapes Go.ChangeAt

set_option linter.unusedSimpArgs false

set_option linter.unusedVariables false

attribute [local go_sem] plus_size plus_drew dn_set dn_alloc dn_plus plus_dn cell_plus frozen_plus set_plus cell_alloc frozen_alloc set_alloc

set_option maxRecDepth 10000 in
theorem colx_50 (n : Nat) (a0 a1 a2 a3 b0 b1 b2 b3 : Int) (w : World) : (Op.equalIn (n + 1 + 1) 50 (.agg #[.int .u8 a0, .int .u8 a1, .int .u8 a2, .int .u8 a3]) (.agg #[.int .u8 b0, .int .u8 b1, .int .u8 b2, .int .u8 b3])).run Tryz.prog w = .ok (eqCx a0 a1 a2 a3 b0 b1 b2 b3) w := by
  have yu := Tryz.underlying5
  have ya := Tryz.isAgg5
  have yz := Tryz.sizeOf5
  rw [Op.equalIn]
  simp only [Sem.run_bind, run_underlying Tryz.underlying50, Result.andThen_ok]
  simp only [Std.Legacy.Range.forIn_eq_forIn_range', Std.Legacy.Range.size, Nat.sub_zero, Nat.add_sub_cancel, Nat.div_one, List.range'_succ, List.range'_zero, List.forIn_cons, List.forIn_nil]
  go_simp
  unfold eqCx
  by_cases h0 : a0 = b0 <;> by_cases h1 : a1 = b1 <;> by_cases h2 : a2 = b2 <;> by_cases h3 : a3 = b3 <;> simp [*]

theorem colc_50 (a0 a1 a2 a3 b0 b1 b2 b3 : Int) (w : World) : (Op.equalIn 10000 50 (.agg #[.int .u8 a0, .int .u8 a1, .int .u8 a2, .int .u8 a3]) (.agg #[.int .u8 b0, .int .u8 b1, .int .u8 b2, .int .u8 b3])).run Tryz.prog w = .ok (eqCx a0 a1 a2 a3 b0 b1 b2 b3) w := colx_50 9998 a0 a1 a2 a3 b0 b1 b2 b3 w

theorem cole_50 (a0 a1 a2 a3 b0 b1 b2 b3 : Int) (w : World) : (binOp .eql 50 (.agg #[.int .u8 a0, .int .u8 a1, .int .u8 a2, .int .u8 a3]) (.agg #[.int .u8 b0, .int .u8 b1, .int .u8 b2, .int .u8 b3])).run Tryz.prog w = .ok (.bool (eqCx a0 a1 a2 a3 b0 b1 b2 b3)) w := by
  simp only [binOp]
  simp [Op.equal, Op.maxDepth, colx_50 9998]

theorem coln_50 (a0 a1 a2 a3 b0 b1 b2 b3 : Int) (w : World) : (binOp .neq 50 (.agg #[.int .u8 a0, .int .u8 a1, .int .u8 a2, .int .u8 a3]) (.agg #[.int .u8 b0, .int .u8 b1, .int .u8 b2, .int .u8 b3])).run Tryz.prog w = .ok (.bool (!(eqCx a0 a1 a2 a3 b0 b1 b2 b3))) w := by
  simp only [binOp]
  simp [Op.equal, Op.maxDepth, colx_50 9998]

end

section


open Go.RowKit Go.ChangeShapes Go.WideShapes Go.ChangeAt

set_option linter.unusedSimpArgs false

set_option linter.unusedVariables false

attribute [local go_sem] plus_size plus_drew dn_set dn_alloc dn_plus plus_dn cell_plus frozen_plus set_plus cell_alloc frozen_alloc set_alloc

set_option maxRecDepth 10000 in
theorem arr_49 (n : Nat) (a0 a1 a2 a3 b0 b1 b2 b3 : Int) (w : World) : (Op.equalIn (n + 1 + 1) 49 (.agg #[.int .u8 a0, .int .u8 a1, .int .u8 a2, .int .u8 a3]) (.agg #[.int .u8 b0, .int .u8 b1, .int .u8 b2, .int .u8 b3])).run Tryz.prog w = .ok (a0 == b0 && (a1 == b1 && (a2 == b2 && (a3 == b3)))) w := by
  have yu := Tryz.underlying5
  have ya := Tryz.isAgg5
  have yz := Tryz.sizeOf5
  rw [Op.equalIn]
  simp only [Sem.run_bind, run_underlying Tryz.underlying49, Result.andThen_ok]
  simp only [Std.Legacy.Range.forIn_eq_forIn_range', Std.Legacy.Range.size, Nat.sub_zero, Nat.add_sub_cancel, Nat.div_one, List.range'_succ, List.range'_zero, List.forIn_cons, List.forIn_nil]
  go_simp
  by_cases h0 : a0 = b0 <;> by_cases h1 : a1 = b1 <;> by_cases h2 : a2 = b2 <;> by_cases h3 : a3 = b3 <;> simp [*]

theorem larr_49 (a0 a1 a2 a3 b0 b1 b2 b3 : Int) (w : World) : (Op.equalIn 10000 49 (.agg #[.int .u8 a0, .int .u8 a1, .int .u8 a2, .int .u8 a3]) (.agg #[.int .u8 b0, .int .u8 b1, .int .u8 b2, .int .u8 b3])).run Tryz.prog w = .ok (a0 == b0 && (a1 == b1 && (a2 == b2 && (a3 == b3)))) w := arr_49 9998 a0 a1 a2 a3 b0 b1 b2 b3 w

set_option maxRecDepth 10000 in
theorem arr_50 (n : Nat) (a0 a1 a2 a3 b0 b1 b2 b3 : Int) (w : World) : (Op.equalIn (n + 1 + 1) 50 (.agg #[.int .u8 a0, .int .u8 a1, .int .u8 a2, .int .u8 a3]) (.agg #[.int .u8 b0, .int .u8 b1, .int .u8 b2, .int .u8 b3])).run Tryz.prog w = .ok (a0 == b0 && (a1 == b1 && (a2 == b2 && (a3 == b3)))) w := by
  have yu := Tryz.underlying5
  have ya := Tryz.isAgg5
  have yz := Tryz.sizeOf5
  rw [Op.equalIn]
  simp only [Sem.run_bind, run_underlying Tryz.underlying50, Result.andThen_ok]
  simp only [Std.Legacy.Range.forIn_eq_forIn_range', Std.Legacy.Range.size, Nat.sub_zero, Nat.add_sub_cancel, Nat.div_one, List.range'_succ, List.range'_zero, List.forIn_cons, List.forIn_nil]
  go_simp
  by_cases h0 : a0 = b0 <;> by_cases h1 : a1 = b1 <;> by_cases h2 : a2 = b2 <;> by_cases h3 : a3 = b3 <;> simp [*]

theorem larr_50 (a0 a1 a2 a3 b0 b1 b2 b3 : Int) (w : World) : (Op.equalIn 10000 50 (.agg #[.int .u8 a0, .int .u8 a1, .int .u8 a2, .int .u8 a3]) (.agg #[.int .u8 b0, .int .u8 b1, .int .u8 b2, .int .u8 b3])).run Tryz.prog w = .ok (a0 == b0 && (a1 == b1 && (a2 == b2 && (a3 == b3)))) w := arr_50 9998 a0 a1 a2 a3 b0 b1 b2 b3 w

set_option maxRecDepth 10000 in
theorem arr_48 (n : Nat) (a0 a1 a2 a3 a4 b0 b1 b2 b3 b4 : Int) (w : World) : (Op.equalIn (n + 1 + 1) 48 (.agg #[.int .u8 a0, .int .u8 a1, .int .u8 a2, .int .u8 a3, .int .u8 a4]) (.agg #[.int .u8 b0, .int .u8 b1, .int .u8 b2, .int .u8 b3, .int .u8 b4])).run Tryz.prog w = .ok (a0 == b0 && (a1 == b1 && (a2 == b2 && (a3 == b3 && (a4 == b4))))) w := by
  have yu := Tryz.underlying5
  have ya := Tryz.isAgg5
  have yz := Tryz.sizeOf5
  rw [Op.equalIn]
  simp only [Sem.run_bind, run_underlying Tryz.underlying48, Result.andThen_ok]
  simp only [Std.Legacy.Range.forIn_eq_forIn_range', Std.Legacy.Range.size, Nat.sub_zero, Nat.add_sub_cancel, Nat.div_one, List.range'_succ, List.range'_zero, List.forIn_cons, List.forIn_nil]
  go_simp
  by_cases h0 : a0 = b0 <;> by_cases h1 : a1 = b1 <;> by_cases h2 : a2 = b2 <;> by_cases h3 : a3 = b3 <;> by_cases h4 : a4 = b4 <;> simp [*]

theorem larr_48 (a0 a1 a2 a3 a4 b0 b1 b2 b3 b4 : Int) (w : World) : (Op.equalIn 10000 48 (.agg #[.int .u8 a0, .int .u8 a1, .int .u8 a2, .int .u8 a3, .int .u8 a4]) (.agg #[.int .u8 b0, .int .u8 b1, .int .u8 b2, .int .u8 b3, .int .u8 b4])).run Tryz.prog w = .ok (a0 == b0 && (a1 == b1 && (a2 == b2 && (a3 == b3 && (a4 == b4))))) w := arr_48 9998 a0 a1 a2 a3 a4 b0 b1 b2 b3 b4 w

def eq4 (a0 a1 a2 a3 b0 b1 b2 b3 : Int) : Bool := a0 == b0 && (a1 == b1 && (a2 == b2 && a3 == b3))

theorem eq4_refl (a0 a1 a2 a3 : Int) : eq4 a0 a1 a2 a3 a0 a1 a2 a3 = true := by simp [eq4]

def eq5 (a0 a1 a2 a3 a4 b0 b1 b2 b3 b4 : Bool) : Bool := a0 == b0 && (a1 == b1 && (a2 == b2 && (a3 == b3 && a4 == b4)))

theorem eq5_refl (a0 a1 a2 a3 a4 : Bool) : eq5 a0 a1 a2 a3 a4 a0 a1 a2 a3 a4 = true := by simp [eq5]

theorem col_49 (a0 a1 a2 a3 b0 b1 b2 b3 : Int) (w : World) : (Op.equalIn 10000 49 (.agg #[.int .u8 a0, .int .u8 a1, .int .u8 a2, .int .u8 a3]) (.agg #[.int .u8 b0, .int .u8 b1, .int .u8 b2, .int .u8 b3])).run Tryz.prog w = .ok (eq4 a0 a1 a2 a3 b0 b1 b2 b3) w := arr_49 9998 a0 a1 a2 a3 b0 b1 b2 b3 w

theorem col_50 (a0 a1 a2 a3 b0 b1 b2 b3 : Int) (w : World) : (Op.equalIn 10000 50 (.agg #[.int .u8 a0, .int .u8 a1, .int .u8 a2, .int .u8 a3]) (.agg #[.int .u8 b0, .int .u8 b1, .int .u8 b2, .int .u8 b3])).run Tryz.prog w = .ok (eq4 a0 a1 a2 a3 b0 b1 b2 b3) w := arr_50 9998 a0 a1 a2 a3 b0 b1 b2 b3 w

theorem col9_49 (a0 a1 a2 a3 b0 b1 b2 b3 : Int) (w : World) : (Op.equalIn 9999 49 (.agg #[.int .u8 a0, .int .u8 a1, .int .u8 a2, .int .u8 a3]) (.agg #[.int .u8 b0, .int .u8 b1, .int .u8 b2, .int .u8 b3])).run Tryz.prog w = .ok (eq4 a0 a1 a2 a3 b0 b1 b2 b3) w := arr_49 9997 a0 a1 a2 a3 b0 b1 b2 b3 w

theorem col9_50 (a0 a1 a2 a3 b0 b1 b2 b3 : Int) (w : World) : (Op.equalIn 9999 50 (.agg #[.int .u8 a0, .int .u8 a1, .int .u8 a2, .int .u8 a3]) (.agg #[.int .u8 b0, .int .u8 b1, .int .u8 b2, .int .u8 b3])).run Tryz.prog w = .ok (eq4 a0 a1 a2 a3 b0 b1 b2 b3) w := arr_50 9997 a0 a1 a2 a3 b0 b1 b2 b3 w

theorem col8_49 (a0 a1 a2 a3 b0 b1 b2 b3 : Int) (w : World) : (Op.equalIn 9998 49 (.agg #[.int .u8 a0, .int .u8 a1, .int .u8 a2, .int .u8 a3]) (.agg #[.int .u8 b0, .int .u8 b1, .int .u8 b2, .int .u8 b3])).run Tryz.prog w = .ok (eq4 a0 a1 a2 a3 b0 b1 b2 b3) w := arr_49 9996 a0 a1 a2 a3 b0 b1 b2 b3 w

theorem col8_50 (a0 a1 a2 a3 b0 b1 b2 b3 : Int) (w : World) : (Op.equalIn 9998 50 (.agg #[.int .u8 a0, .int .u8 a1, .int .u8 a2, .int .u8 a3]) (.agg #[.int .u8 b0, .int .u8 b1, .int .u8 b2, .int .u8 b3])).run Tryz.prog w = .ok (eq4 a0 a1 a2 a3 b0 b1 b2 b3) w := arr_50 9996 a0 a1 a2 a3 b0 b1 b2 b3 w

theorem eqL_no {J V : Lk} (h : eqL J V = false) : eq4 J.r J.g J.b J.a V.r V.g V.b V.a = false ∨ (eq4 J.r J.g J.b J.a V.r V.g V.b V.a = true ∧ (¬ J.tx = V.tx ∨ (J.tx = V.tx ∧ (¬ J.cu = V.cu ∨ (J.cu = V.cu ∧ (¬ J.bi = V.bi ∨ (J.bi = V.bi ∧ (¬ J.bl = V.bl ∨ (J.bl = V.bl ∧ ¬ J.bn = V.bn))))))))) := by
  rw [eqL, show eqC J V = eq4 J.r J.g J.b J.a V.r V.g V.b V.a from rfl] at h
  cases hc : eq4 J.r J.g J.b J.a V.r V.g V.b V.a
  · exact .inl rfl
  · rw [hc] at h
    right
    refine ⟨rfl, ?_⟩
    simp at h
    by_cases h1 : J.tx = V.tx <;> by_cases h2 : J.cu = V.cu <;> by_cases h3 : J.bi = V.bi <;> by_cases h4 : J.bl = V.bl <;> simp_all

end

section


open Go.RowKit Go.ChangeShapes Go.WideShapes Go.ChangeAt

set_option linter.unusedSimpArgs false

set_option linter.unusedVariables false

attribute [local go_sem] plus_size plus_drew dn_set dn_alloc dn_plus plus_dn cell_plus frozen_plus set_plus cell_alloc frozen_alloc set_alloc

def eqv (a b : V3) : Bool := a.x == b.x && (a.y == b.y && a.z == b.z)

def eqm9 (a b : M9) : Bool := eqv a.a b.a && (eqv a.b b.b && eqv a.c b.c)

def eqmt (a b : Mt) : Bool := eqm9 a.m b.m && eqv a.t b.t

def eqh (a0 a1 b0 b1 : Int) : Bool := a0 == b0 && a1 == b1

def eqlk (a b : Lk) : Bool := eqCx a.r a.g a.b a.a b.r b.g b.b b.a && (a.tx == b.tx && (a.cu == b.cu && (a.bi == b.bi && (a.bl == b.bl && a.bn == b.bn))))

def eqsay (a0 a1 a2 a3 a4 b0 b1 b2 b3 b4 : Int) : Bool := a0 == b0 && (a1 == b1 && (a2 == b2 && (a3 == b3 && a4 == b4)))

def eqsy (a b : Sy) : Bool := eqsay a.s0 a.s1 a.s2 a.s3 a.s4 b.s0 b.s1 b.s2 b.s3 b.s4 && eqlk a.l b.l

theorem eqv_refl (a : V3) : eqv a a = true := by simp [eqv]

theorem eqmt_refl (a : Mt) : eqmt a a = true := by simp [eqmt, eqm9, eqv_refl]

theorem eqlk_refl (a : Lk) : eqlk a a = true := by simp [eqlk, eqCx_refl]

theorem eqsy_refl (a : Sy) : eqsy a a = true := by simp [eqsy, eqsay, eqlk_refl]

theorem eqv_eq {a b : V3} (h : eqv a b = true) : a = b := by
  obtain ⟨a0, a1, a2⟩ := a
  obtain ⟨b0, b1, b2⟩ := b
  simp only [eqv, Bool.and_eq_true, beq_iff_eq] at h
  obtain ⟨rfl, rfl, rfl⟩ := h
  rfl

theorem eqmt_eq {a b : Mt} (h : eqmt a b = true) : a = b := by
  obtain ⟨⟨a0, a1, a2⟩, a3⟩ := a
  obtain ⟨⟨b0, b1, b2⟩, b3⟩ := b
  simp only [eqmt, eqm9, Bool.and_eq_true] at h
  obtain ⟨⟨h0, h1, h2⟩, h3⟩ := h
  rw [eqv_eq h0, eqv_eq h1, eqv_eq h2, eqv_eq h3]

theorem eqsy_eq {a b : Sy} (h : eqsy a b = true) : a = b := by
  obtain ⟨a0, a1, a2, a3, a4, ⟨l0, l1, l2, l3, l4, l5, l6, l7, l8⟩⟩ := a
  obtain ⟨b0, b1, b2, b3, b4, ⟨k0, k1, k2, k3, k4, k5, k6, k7, k8⟩⟩ := b
  simp only [eqsy, eqsay, eqlk, eqCx, Bool.and_eq_true, beq_iff_eq] at h
  obtain ⟨⟨rfl, rfl, rfl, rfl, rfl⟩, ⟨rfl, rfl, rfl, rfl⟩, rfl, rfl, rfl, rfl, rfl⟩ := h
  rfl

theorem eqVi_43 (n : Nat) (a0 a1 a2 : Int) (b0 b1 b2 : Int) (w : World) : (Op.equalIn (n + 1 + 1) 43 (.agg #[.int .i64 a0, .int .i64 a1, .int .i64 a2]) (.agg #[.int .i64 b0, .int .i64 b1, .int .i64 b2])).run Tryz.prog w = .ok (eqv ⟨a0, a1, a2⟩ ⟨b0, b1, b2⟩) w := by
  have yu := Tryz.underlying3
  have ya := Tryz.isAgg3
  have yz := Tryz.sizeOf3
  rw [run_equalIn_struct _ _ _ _ _ (by kernel_rfl) (by kernel_rfl)]
  go_simp
  simp only [eqv]
  by_cases h0 : a0 = b0 <;> by_cases h1 : a1 = b1 <;> by_cases h2 : a2 = b2 <;> simp [h0, h1, h2]

theorem eqVc_43 (a0 a1 a2 : Int) (b0 b1 b2 : Int) (w : World) : (Op.equalIn 10000 43 (.agg #[.int .i64 a0, .int .i64 a1, .int .i64 a2]) (.agg #[.int .i64 b0, .int .i64 b1, .int .i64 b2])).run Tryz.prog w = .ok (eqv ⟨a0, a1, a2⟩ ⟨b0, b1, b2⟩) w := eqVi_43 9998 a0 a1 a2 b0 b1 b2 w

theorem eqV_is {a0 a1 a2 : Int} {b0 b1 b2 : Int} {b : Bool} (h : (eqv ⟨a0, a1, a2⟩ ⟨b0, b1, b2⟩) = b) : ∀ w : World, (Op.equalIn 10000 43 (.agg #[.int .i64 a0, .int .i64 a1, .int .i64 a2]) (.agg #[.int .i64 b0, .int .i64 b1, .int .i64 b2])).run Tryz.prog w = .ok b w := fun w => h ▸ eqVc_43 a0 a1 a2 b0 b1 b2 w

theorem eqVe_43 (a0 a1 a2 : Int) (b0 b1 b2 : Int) (w : World) : (binOp .eql 43 (.agg #[.int .i64 a0, .int .i64 a1, .int .i64 a2]) (.agg #[.int .i64 b0, .int .i64 b1, .int .i64 b2])).run Tryz.prog w = .ok (.bool (eqv ⟨a0, a1, a2⟩ ⟨b0, b1, b2⟩)) w := by
  simp only [binOp]
  simp [Op.equal, Op.maxDepth, eqVc_43]

theorem eqVn_43 (a0 a1 a2 : Int) (b0 b1 b2 : Int) (w : World) : (binOp .neq 43 (.agg #[.int .i64 a0, .int .i64 a1, .int .i64 a2]) (.agg #[.int .i64 b0, .int .i64 b1, .int .i64 b2])).run Tryz.prog w = .ok (.bool (!(eqv ⟨a0, a1, a2⟩ ⟨b0, b1, b2⟩))) w := by
  simp only [binOp]
  simp [Op.equal, Op.maxDepth, eqVc_43]

theorem eqHi_32 (n : Nat) (a0 a1 : Int) (b0 b1 : Int) (w : World) : (Op.equalIn (n + 1 + 1) 32 (.agg #[.int .i64 a0, .int .i64 a1]) (.agg #[.int .i64 b0, .int .i64 b1])).run Tryz.prog w = .ok (eqh a0 a1 b0 b1) w := by
  have yu := Tryz.underlying3
  have ya := Tryz.isAgg3
  have yz := Tryz.sizeOf3
  rw [run_equalIn_struct _ _ _ _ _ (by kernel_rfl) (by kernel_rfl)]
  go_simp
  simp only [eqh]
  by_cases h0 : a0 = b0 <;> by_cases h1 : a1 = b1 <;> simp [h0, h1]

theorem eqHc_32 (a0 a1 : Int) (b0 b1 : Int) (w : World) : (Op.equalIn 10000 32 (.agg #[.int .i64 a0, .int .i64 a1]) (.agg #[.int .i64 b0, .int .i64 b1])).run Tryz.prog w = .ok (eqh a0 a1 b0 b1) w := eqHi_32 9998 a0 a1 b0 b1 w

theorem eqH_is {a0 a1 : Int} {b0 b1 : Int} {b : Bool} (h : (eqh a0 a1 b0 b1) = b) : ∀ w : World, (Op.equalIn 10000 32 (.agg #[.int .i64 a0, .int .i64 a1]) (.agg #[.int .i64 b0, .int .i64 b1])).run Tryz.prog w = .ok b w := fun w => h ▸ eqHc_32 a0 a1 b0 b1 w

theorem eqHe_32 (a0 a1 : Int) (b0 b1 : Int) (w : World) : (binOp .eql 32 (.agg #[.int .i64 a0, .int .i64 a1]) (.agg #[.int .i64 b0, .int .i64 b1])).run Tryz.prog w = .ok (.bool (eqh a0 a1 b0 b1)) w := by
  simp only [binOp]
  simp [Op.equal, Op.maxDepth, eqHc_32]

theorem eqHn_32 (a0 a1 : Int) (b0 b1 : Int) (w : World) : (binOp .neq 32 (.agg #[.int .i64 a0, .int .i64 a1]) (.agg #[.int .i64 b0, .int .i64 b1])).run Tryz.prog w = .ok (.bool (!(eqh a0 a1 b0 b1))) w := by
  simp only [binOp]
  simp [Op.equal, Op.maxDepth, eqHc_32]

theorem eqMi_45 (n : Nat) (a0 a1 a2 a3 a4 a5 a6 a7 a8 a9 a10 a11 : Int) (b0 b1 b2 b3 b4 b5 b6 b7 b8 b9 b10 b11 : Int) (w : World) : (Op.equalIn (n + 1 + 1 + 1 + 1) 45 (.agg #[.int .i64 a0, .int .i64 a1, .int .i64 a2, .int .i64 a3, .int .i64 a4, .int .i64 a5, .int .i64 a6, .int .i64 a7, .int .i64 a8, .int .i64 a9, .int .i64 a10, .int .i64 a11]) (.agg #[.int .i64 b0, .int .i64 b1, .int .i64 b2, .int .i64 b3, .int .i64 b4, .int .i64 b5, .int .i64 b6, .int .i64 b7, .int .i64 b8, .int .i64 b9, .int .i64 b10, .int .i64 b11])).run Tryz.prog w = .ok (eqmt ⟨⟨⟨a0, a1, a2⟩, ⟨a3, a4, a5⟩, ⟨a6, a7, a8⟩⟩, ⟨a9, a10, a11⟩⟩ ⟨⟨⟨b0, b1, b2⟩, ⟨b3, b4, b5⟩, ⟨b6, b7, b8⟩⟩, ⟨b9, b10, b11⟩⟩) w := by
  rw [run_equalIn_struct _ _ _ _ _ (by kernel_rfl) (by kernel_rfl)]
  have e1 := eq9 n a0 a1 a2 a3 a4 a5 a6 a7 a8 b0 b1 b2 b3 b4 b5 b6 b7 b8
  have e2 := eqVi_43 (n + 1) a9 a10 a11 b9 b10 b11
  simp only [eqmt]
  rw [show eqm9 ⟨⟨a0, a1, a2⟩, ⟨a3, a4, a5⟩, ⟨a6, a7, a8⟩⟩ ⟨⟨b0, b1, b2⟩, ⟨b3, b4, b5⟩, ⟨b6, b7, b8⟩⟩ = _ from rfl]
  generalize eqv ⟨a9, a10, a11⟩ ⟨b9, b10, b11⟩ = k2 at *
  simp only [eqm9, eqv]
  generalize ((a0 == b0 && (a1 == b1 && a2 == b2)) && ((a3 == b3 && (a4 == b4 && a5 == b5)) && (a6 == b6 && (a7 == b7 && a8 == b8)))) = k1 at *
  go_simp
  cases k1 <;> cases k2 <;> simp

theorem eqMc_45 (a0 a1 a2 a3 a4 a5 a6 a7 a8 a9 a10 a11 : Int) (b0 b1 b2 b3 b4 b5 b6 b7 b8 b9 b10 b11 : Int) (w : World) : (Op.equalIn 10000 45 (.agg #[.int .i64 a0, .int .i64 a1, .int .i64 a2, .int .i64 a3, .int .i64 a4, .int .i64 a5, .int .i64 a6, .int .i64 a7, .int .i64 a8, .int .i64 a9, .int .i64 a10, .int .i64 a11]) (.agg #[.int .i64 b0, .int .i64 b1, .int .i64 b2, .int .i64 b3, .int .i64 b4, .int .i64 b5, .int .i64 b6, .int .i64 b7, .int .i64 b8, .int .i64 b9, .int .i64 b10, .int .i64 b11])).run Tryz.prog w = .ok (eqmt ⟨⟨⟨a0, a1, a2⟩, ⟨a3, a4, a5⟩, ⟨a6, a7, a8⟩⟩, ⟨a9, a10, a11⟩⟩ ⟨⟨⟨b0, b1, b2⟩, ⟨b3, b4, b5⟩, ⟨b6, b7, b8⟩⟩, ⟨b9, b10, b11⟩⟩) w := eqMi_45 9996 a0 a1 a2 a3 a4 a5 a6 a7 a8 a9 a10 a11 b0 b1 b2 b3 b4 b5 b6 b7 b8 b9 b10 b11 w

theorem eqM_is {a0 a1 a2 a3 a4 a5 a6 a7 a8 a9 a10 a11 : Int} {b0 b1 b2 b3 b4 b5 b6 b7 b8 b9 b10 b11 : Int} {b : Bool} (h : (eqmt ⟨⟨⟨a0, a1, a2⟩, ⟨a3, a4, a5⟩, ⟨a6, a7, a8⟩⟩, ⟨a9, a10, a11⟩⟩ ⟨⟨⟨b0, b1, b2⟩, ⟨b3, b4, b5⟩, ⟨b6, b7, b8⟩⟩, ⟨b9, b10, b11⟩⟩) = b) : ∀ w : World, (Op.equalIn 10000 45 (.agg #[.int .i64 a0, .int .i64 a1, .int .i64 a2, .int .i64 a3, .int .i64 a4, .int .i64 a5, .int .i64 a6, .int .i64 a7, .int .i64 a8, .int .i64 a9, .int .i64 a10, .int .i64 a11]) (.agg #[.int .i64 b0, .int .i64 b1, .int .i64 b2, .int .i64 b3, .int .i64 b4, .int .i64 b5, .int .i64 b6, .int .i64 b7, .int .i64 b8, .int .i64 b9, .int .i64 b10, .int .i64 b11])).run Tryz.prog w = .ok b w := fun w => h ▸ eqMc_45 a0 a1 a2 a3 a4 a5 a6 a7 a8 a9 a10 a11 b0 b1 b2 b3 b4 b5 b6 b7 b8 b9 b10 b11 w

theorem eqMe_45 (a0 a1 a2 a3 a4 a5 a6 a7 a8 a9 a10 a11 : Int) (b0 b1 b2 b3 b4 b5 b6 b7 b8 b9 b10 b11 : Int) (w : World) : (binOp .eql 45 (.agg #[.int .i64 a0, .int .i64 a1, .int .i64 a2, .int .i64 a3, .int .i64 a4, .int .i64 a5, .int .i64 a6, .int .i64 a7, .int .i64 a8, .int .i64 a9, .int .i64 a10, .int .i64 a11]) (.agg #[.int .i64 b0, .int .i64 b1, .int .i64 b2, .int .i64 b3, .int .i64 b4, .int .i64 b5, .int .i64 b6, .int .i64 b7, .int .i64 b8, .int .i64 b9, .int .i64 b10, .int .i64 b11])).run Tryz.prog w = .ok (.bool (eqmt ⟨⟨⟨a0, a1, a2⟩, ⟨a3, a4, a5⟩, ⟨a6, a7, a8⟩⟩, ⟨a9, a10, a11⟩⟩ ⟨⟨⟨b0, b1, b2⟩, ⟨b3, b4, b5⟩, ⟨b6, b7, b8⟩⟩, ⟨b9, b10, b11⟩⟩)) w := by
  simp only [binOp]
  simp [Op.equal, Op.maxDepth, eqMc_45]

theorem eqMn_45 (a0 a1 a2 a3 a4 a5 a6 a7 a8 a9 a10 a11 : Int) (b0 b1 b2 b3 b4 b5 b6 b7 b8 b9 b10 b11 : Int) (w : World) : (binOp .neq 45 (.agg #[.int .i64 a0, .int .i64 a1, .int .i64 a2, .int .i64 a3, .int .i64 a4, .int .i64 a5, .int .i64 a6, .int .i64 a7, .int .i64 a8, .int .i64 a9, .int .i64 a10, .int .i64 a11]) (.agg #[.int .i64 b0, .int .i64 b1, .int .i64 b2, .int .i64 b3, .int .i64 b4, .int .i64 b5, .int .i64 b6, .int .i64 b7, .int .i64 b8, .int .i64 b9, .int .i64 b10, .int .i64 b11])).run Tryz.prog w = .ok (.bool (!(eqmt ⟨⟨⟨a0, a1, a2⟩, ⟨a3, a4, a5⟩, ⟨a6, a7, a8⟩⟩, ⟨a9, a10, a11⟩⟩ ⟨⟨⟨b0, b1, b2⟩, ⟨b3, b4, b5⟩, ⟨b6, b7, b8⟩⟩, ⟨b9, b10, b11⟩⟩))) w := by
  simp only [binOp]
  simp [Op.equal, Op.maxDepth, eqMc_45]

theorem eqLki_52 (n : Nat) (a0 : Int) (a1 : Int) (a2 : Int) (a3 : Int) (a4 : Int) (a5 : Int) (a6 : Int) (a7 : Bool) (a8 : Int) (b0 : Int) (b1 : Int) (b2 : Int) (b3 : Int) (b4 : Int) (b5 : Int) (b6 : Int) (b7 : Bool) (b8 : Int) (w : World) : (Op.equalIn (n + 1 + 1 + 1) 52 (.agg #[.int .u8 a0, .int .u8 a1, .int .u8 a2, .int .u8 a3, .int .i64 a4, .int .u8 a5, .int .i64 a6, .bool a7, .int .i64 a8]) (.agg #[.int .u8 b0, .int .u8 b1, .int .u8 b2, .int .u8 b3, .int .i64 b4, .int .u8 b5, .int .i64 b6, .bool b7, .int .i64 b8])).run Tryz.prog w = .ok (eqlk ⟨a0, a1, a2, a3, a4, a5, a6, a7, a8⟩ ⟨b0, b1, b2, b3, b4, b5, b6, b7, b8⟩) w := by
  have yu := Tryz.underlying3
  have ya := Tryz.isAgg3
  have yz := Tryz.sizeOf3
  have yu8 := Tryz.underlying5
  have ybb := Tryz.underlying4
  rw [run_equalIn_struct _ _ _ _ _ (by kernel_rfl) (by kernel_rfl)]
  have e1 := colx_50 n a0 a1 a2 a3 b0 b1 b2 b3
  simp only [eqlk]
  generalize eqCx a0 a1 a2 a3 b0 b1 b2 b3 = k1 at *
  go_simp
  cases k1 <;> by_cases h4 : a4 = b4 <;> by_cases h5 : a5 = b5 <;> by_cases h6 : a6 = b6 <;> by_cases h7 : a7 = b7 <;> by_cases h8 : a8 = b8 <;> simp [h4, h5, h6, h7, h8]

theorem eqLkc_52 (a0 : Int) (a1 : Int) (a2 : Int) (a3 : Int) (a4 : Int) (a5 : Int) (a6 : Int) (a7 : Bool) (a8 : Int) (b0 : Int) (b1 : Int) (b2 : Int) (b3 : Int) (b4 : Int) (b5 : Int) (b6 : Int) (b7 : Bool) (b8 : Int) (w : World) : (Op.equalIn 10000 52 (.agg #[.int .u8 a0, .int .u8 a1, .int .u8 a2, .int .u8 a3, .int .i64 a4, .int .u8 a5, .int .i64 a6, .bool a7, .int .i64 a8]) (.agg #[.int .u8 b0, .int .u8 b1, .int .u8 b2, .int .u8 b3, .int .i64 b4, .int .u8 b5, .int .i64 b6, .bool b7, .int .i64 b8])).run Tryz.prog w = .ok (eqlk ⟨a0, a1, a2, a3, a4, a5, a6, a7, a8⟩ ⟨b0, b1, b2, b3, b4, b5, b6, b7, b8⟩) w := eqLki_52 9997 a0 a1 a2 a3 a4 a5 a6 a7 a8 b0 b1 b2 b3 b4 b5 b6 b7 b8 w

theorem eqLke_52 (a0 : Int) (a1 : Int) (a2 : Int) (a3 : Int) (a4 : Int) (a5 : Int) (a6 : Int) (a7 : Bool) (a8 : Int) (b0 : Int) (b1 : Int) (b2 : Int) (b3 : Int) (b4 : Int) (b5 : Int) (b6 : Int) (b7 : Bool) (b8 : Int) (w : World) : (binOp .eql 52 (.agg #[.int .u8 a0, .int .u8 a1, .int .u8 a2, .int .u8 a3, .int .i64 a4, .int .u8 a5, .int .i64 a6, .bool a7, .int .i64 a8]) (.agg #[.int .u8 b0, .int .u8 b1, .int .u8 b2, .int .u8 b3, .int .i64 b4, .int .u8 b5, .int .i64 b6, .bool b7, .int .i64 b8])).run Tryz.prog w = .ok (.bool (eqlk ⟨a0, a1, a2, a3, a4, a5, a6, a7, a8⟩ ⟨b0, b1, b2, b3, b4, b5, b6, b7, b8⟩)) w := by
  simp only [binOp]
  simp [Op.equal, Op.maxDepth, eqLkc_52]

theorem eqLkn_52 (a0 : Int) (a1 : Int) (a2 : Int) (a3 : Int) (a4 : Int) (a5 : Int) (a6 : Int) (a7 : Bool) (a8 : Int) (b0 : Int) (b1 : Int) (b2 : Int) (b3 : Int) (b4 : Int) (b5 : Int) (b6 : Int) (b7 : Bool) (b8 : Int) (w : World) : (binOp .neq 52 (.agg #[.int .u8 a0, .int .u8 a1, .int .u8 a2, .int .u8 a3, .int .i64 a4, .int .u8 a5, .int .i64 a6, .bool a7, .int .i64 a8]) (.agg #[.int .u8 b0, .int .u8 b1, .int .u8 b2, .int .u8 b3, .int .i64 b4, .int .u8 b5, .int .i64 b6, .bool b7, .int .i64 b8])).run Tryz.prog w = .ok (.bool (!(eqlk ⟨a0, a1, a2, a3, a4, a5, a6, a7, a8⟩ ⟨b0, b1, b2, b3, b4, b5, b6, b7, b8⟩))) w := by
  simp only [binOp]
  simp [Op.equal, Op.maxDepth, eqLkc_52]

theorem eqSyi_54 (n : Nat) (a0 : Int) (a1 : Int) (a2 : Int) (a3 : Int) (a4 : Int) (a5 : Int) (a6 : Int) (a7 : Int) (a8 : Int) (a9 : Int) (a10 : Int) (a11 : Int) (a12 : Bool) (a13 : Int) (b0 : Int) (b1 : Int) (b2 : Int) (b3 : Int) (b4 : Int) (b5 : Int) (b6 : Int) (b7 : Int) (b8 : Int) (b9 : Int) (b10 : Int) (b11 : Int) (b12 : Bool) (b13 : Int) (w : World) : (Op.equalIn (n + 1 + 1 + 1 + 1) 54 (.agg #[.int .u8 a0, .int .u8 a1, .int .u8 a2, .int .u8 a3, .int .u8 a4, .int .u8 a5, .int .u8 a6, .int .u8 a7, .int .u8 a8, .int .i64 a9, .int .u8 a10, .int .i64 a11, .bool a12, .int .i64 a13]) (.agg #[.int .u8 b0, .int .u8 b1, .int .u8 b2, .int .u8 b3, .int .u8 b4, .int .u8 b5, .int .u8 b6, .int .u8 b7, .int .u8 b8, .int .i64 b9, .int .u8 b10, .int .i64 b11, .bool b12, .int .i64 b13])).run Tryz.prog w = .ok (eqsy ⟨a0, a1, a2, a3, a4, ⟨a5, a6, a7, a8, a9, a10, a11, a12, a13⟩⟩ ⟨b0, b1, b2, b3, b4, ⟨b5, b6, b7, b8, b9, b10, b11, b12, b13⟩⟩) w := by
  rw [run_equalIn_struct _ _ _ _ _ (by kernel_rfl) (by kernel_rfl)]
  have e1 := arr_48 (n + 1) a0 a1 a2 a3 a4 b0 b1 b2 b3 b4
  have e2 := eqLki_52 n a5 a6 a7 a8 a9 a10 a11 a12 a13 b5 b6 b7 b8 b9 b10 b11 b12 b13
  simp only [eqsy, eqsay]
  generalize eqlk ⟨a5, a6, a7, a8, a9, a10, a11, a12, a13⟩ ⟨b5, b6, b7, b8, b9, b10, b11, b12, b13⟩ = k2 at *
  generalize (a0 == b0 && (a1 == b1 && (a2 == b2 && (a3 == b3 && a4 == b4)))) = k1 at *
  go_simp
  cases k1 <;> cases k2 <;> simp

theorem eqSyc_54 (a0 : Int) (a1 : Int) (a2 : Int) (a3 : Int) (a4 : Int) (a5 : Int) (a6 : Int) (a7 : Int) (a8 : Int) (a9 : Int) (a10 : Int) (a11 : Int) (a12 : Bool) (a13 : Int) (b0 : Int) (b1 : Int) (b2 : Int) (b3 : Int) (b4 : Int) (b5 : Int) (b6 : Int) (b7 : Int) (b8 : Int) (b9 : Int) (b10 : Int) (b11 : Int) (b12 : Bool) (b13 : Int) (w : World) : (Op.equalIn 10000 54 (.agg #[.int .u8 a0, .int .u8 a1, .int .u8 a2, .int .u8 a3, .int .u8 a4, .int .u8 a5, .int .u8 a6, .int .u8 a7, .int .u8 a8, .int .i64 a9, .int .u8 a10, .int .i64 a11, .bool a12, .int .i64 a13]) (.agg #[.int .u8 b0, .int .u8 b1, .int .u8 b2, .int .u8 b3, .int .u8 b4, .int .u8 b5, .int .u8 b6, .int .u8 b7, .int .u8 b8, .int .i64 b9, .int .u8 b10, .int .i64 b11, .bool b12, .int .i64 b13])).run Tryz.prog w = .ok (eqsy ⟨a0, a1, a2, a3, a4, ⟨a5, a6, a7, a8, a9, a10, a11, a12, a13⟩⟩ ⟨b0, b1, b2, b3, b4, ⟨b5, b6, b7, b8, b9, b10, b11, b12, b13⟩⟩) w := eqSyi_54 9996 a0 a1 a2 a3 a4 a5 a6 a7 a8 a9 a10 a11 a12 a13 b0 b1 b2 b3 b4 b5 b6 b7 b8 b9 b10 b11 b12 b13 w

theorem eqSy_is {a0 : Int} {a1 : Int} {a2 : Int} {a3 : Int} {a4 : Int} {a5 : Int} {a6 : Int} {a7 : Int} {a8 : Int} {a9 : Int} {a10 : Int} {a11 : Int} {a12 : Bool} {a13 : Int} {b0 : Int} {b1 : Int} {b2 : Int} {b3 : Int} {b4 : Int} {b5 : Int} {b6 : Int} {b7 : Int} {b8 : Int} {b9 : Int} {b10 : Int} {b11 : Int} {b12 : Bool} {b13 : Int} {b : Bool} (h : (eqsy ⟨a0, a1, a2, a3, a4, ⟨a5, a6, a7, a8, a9, a10, a11, a12, a13⟩⟩ ⟨b0, b1, b2, b3, b4, ⟨b5, b6, b7, b8, b9, b10, b11, b12, b13⟩⟩) = b) : ∀ w : World, (Op.equalIn 10000 54 (.agg #[.int .u8 a0, .int .u8 a1, .int .u8 a2, .int .u8 a3, .int .u8 a4, .int .u8 a5, .int .u8 a6, .int .u8 a7, .int .u8 a8, .int .i64 a9, .int .u8 a10, .int .i64 a11, .bool a12, .int .i64 a13]) (.agg #[.int .u8 b0, .int .u8 b1, .int .u8 b2, .int .u8 b3, .int .u8 b4, .int .u8 b5, .int .u8 b6, .int .u8 b7, .int .u8 b8, .int .i64 b9, .int .u8 b10, .int .i64 b11, .bool b12, .int .i64 b13])).run Tryz.prog w = .ok b w := fun w => h ▸ eqSyc_54 a0 a1 a2 a3 a4 a5 a6 a7 a8 a9 a10 a11 a12 a13 b0 b1 b2 b3 b4 b5 b6 b7 b8 b9 b10 b11 b12 b13 w

theorem eqSye_54 (a0 : Int) (a1 : Int) (a2 : Int) (a3 : Int) (a4 : Int) (a5 : Int) (a6 : Int) (a7 : Int) (a8 : Int) (a9 : Int) (a10 : Int) (a11 : Int) (a12 : Bool) (a13 : Int) (b0 : Int) (b1 : Int) (b2 : Int) (b3 : Int) (b4 : Int) (b5 : Int) (b6 : Int) (b7 : Int) (b8 : Int) (b9 : Int) (b10 : Int) (b11 : Int) (b12 : Bool) (b13 : Int) (w : World) : (binOp .eql 54 (.agg #[.int .u8 a0, .int .u8 a1, .int .u8 a2, .int .u8 a3, .int .u8 a4, .int .u8 a5, .int .u8 a6, .int .u8 a7, .int .u8 a8, .int .i64 a9, .int .u8 a10, .int .i64 a11, .bool a12, .int .i64 a13]) (.agg #[.int .u8 b0, .int .u8 b1, .int .u8 b2, .int .u8 b3, .int .u8 b4, .int .u8 b5, .int .u8 b6, .int .u8 b7, .int .u8 b8, .int .i64 b9, .int .u8 b10, .int .i64 b11, .bool b12, .int .i64 b13])).run Tryz.prog w = .ok (.bool (eqsy ⟨a0, a1, a2, a3, a4, ⟨a5, a6, a7, a8, a9, a10, a11, a12, a13⟩⟩ ⟨b0, b1, b2, b3, b4, ⟨b5, b6, b7, b8, b9, b10, b11, b12, b13⟩⟩)) w := by
  simp only [binOp]
  simp [Op.equal, Op.maxDepth, eqSyc_54]

theorem eqSyn_54 (a0 : Int) (a1 : Int) (a2 : Int) (a3 : Int) (a4 : Int) (a5 : Int) (a6 : Int) (a7 : Int) (a8 : Int) (a9 : Int) (a10 : Int) (a11 : Int) (a12 : Bool) (a13 : Int) (b0 : Int) (b1 : Int) (b2 : Int) (b3 : Int) (b4 : Int) (b5 : Int) (b6 : Int) (b7 : Int) (b8 : Int) (b9 : Int) (b10 : Int) (b11 : Int) (b12 : Bool) (b13 : Int) (w : World) : (binOp .neq 54 (.agg #[.int .u8 a0, .int .u8 a1, .int .u8 a2, .int .u8 a3, .int .u8 a4, .int .u8 a5, .int .u8 a6, .int .u8 a7, .int .u8 a8, .int .i64 a9, .int .u8 a10, .int .i64 a11, .bool a12, .int .i64 a13]) (.agg #[.int .u8 b0, .int .u8 b1, .int .u8 b2, .int .u8 b3, .int .u8 b4, .int .u8 b5, .int .u8 b6, .int .u8 b7, .int .u8 b8, .int .i64 b9, .int .u8 b10, .int .i64 b11, .bool b12, .int .i64 b13])).run Tryz.prog w = .ok (.bool (!(eqsy ⟨a0, a1, a2, a3, a4, ⟨a5, a6, a7, a8, a9, a10, a11, a12, a13⟩⟩ ⟨b0, b1, b2, b3, b4, ⟨b5, b6, b7, b8, b9, b10, b11, b12, b13⟩⟩))) w := by
  simp only [binOp]
  simp [Op.equal, Op.maxDepth, eqSyc_54]

end

end Go.Proofs.YtcekcihijdipoaaGreat
