/- A pack of texts: Tx4, Ed7, Mesh14, Ed8, EdMath. -/
import Derived.Test.YtcekcihijdipoaaGreatPT6
import Derived.Test.YtcekcihijdipoaaGreatPT4
import Derived.Test.YtcekcihijdipoaaGreatPT8
import Derived.Test.YtcekcihijdipoaaGreatPT7
import Derived.Test.YtcekcihijdipoaaGreatPT2
namespace Go.Proofs.YtcekcihijdipoaaGreat

section


open Go.RowKit Go.ChangeShapes Go.WideShapes Go.ChangeAt

set_option linter.unusedSimpArgs false

set_option linter.unusedVariables false

attribute [local go_sem] plus_size plus_drew dn_set dn_alloc dn_plus plus_dn cell_plus frozen_plus set_plus cell_alloc frozen_alloc set_alloc

attribute [local go_sem] eqCx_refl

attribute [local go_sem] colc_50

attribute [local go_sem] cole_50

attribute [local go_sem] coln_50

set_option maxHeartbeats 2000000 in
theorem equalC_calls (ao ao2 : Option Addr) (n n2 cap cap2 : Nat) (l l2 : List Cl) (w : World) (hl : Lay fCl w ao n l) (hl2 : Lay fCl w ao2 n2 l2) (hn : n ≤ 9223372036854775807) (hn2 : n2 ≤ 9223372036854775807) :
    Calls Tryz.prog 111 #[.slice ao n cap, .slice ao2 n2 cap2] w fun e w' => e = .returned (.bool (sameC l l2)) ∧ ∃ y, w' = plus w y := by
  have hlen := hl.len
  have hlen2 := hl2.len
  by_cases hne : n = n2
  rotate_left
  · rw [show sameC l l2 = false from same_len (by omega)]
    have ine : ¬ (n : Int) = (n2 : Int) := by omega
    have dne : ((n : Int) == (n2 : Int)) = false := by rw [beq_eq_false_iff_ne]; omega
    go_enter Tryz.func111, Tryz.ntmps111
    go_wp2
    go_ret
    exact ⟨rfl, sk9⟩
  subst hne
  go_enter Tryz.func111, Tryz.ntmps111
  go_wp2
  go_loopw [13] (fun i wr => ∃ k : Nat, k ≤ n ∧ i = .int .i64 k ∧ (∀ j, j < k → eqCl (nth cl0 l j) (nth cl0 l2 j) = true) ∧ ∃ x, wr = plus w x) (fun i _ => n - (intOf i).toNat)
  case atStart => exact ⟨0, Nat.zero_le _, rfl, fun j hj => by omega, sk9⟩
  case round =>
    obtain ⟨k, hk, rfl, hs, x, rfl⟩ := hrel
    by_cases hkl : k < n
    · obtain ⟨g, off, rfl, hg, hcell⟩ := hl.some (by omega)
      obtain ⟨g2, off2, rfl, hg2, hcell2⟩ := hl2.some (by omega)
      have ik : (k : Int) < (n : Int) := by omega
      obtain ⟨c0, c1, c2, c3⟩ := cellCl hlen hcell hkl
      obtain ⟨d0, d1, d2, d3⟩ := cellCl hlen2 hcell2 hkl
      cases hq : eqCl (nth cl0 l k) (nth cl0 l2 k)
      · have hq' : eqCx (nth cl0 l k).r (nth cl0 l k).g (nth cl0 l k).b (nth cl0 l k).a (nth cl0 l2 k).r (nth cl0 l2 k).g (nth cl0 l2 k).b (nth cl0 l2 k).a = false := hq
        go_wp2
        refine region_plus (by kernel_rfl) (by kernel_rfl) ?_
        (repeat (go_big_quiet_step (fail)))
        refine wpQuiet_nil ?_
        rintro _ ⟨x2, rfl⟩
        go_wp2
        go_ret
        exact ⟨by rw [show sameC l l2 = false from same_not (k := k) (by omega) hq]; rfl, sk9⟩
      · have hq' : eqCx (nth cl0 l k).r (nth cl0 l k).g (nth cl0 l k).b (nth cl0 l k).a (nth cl0 l2 k).r (nth cl0 l2 k).g (nth cl0 l2 k).b (nth cl0 l2 k).a = true := hq
        go_wp2
        refine region_plus (by kernel_rfl) (by kernel_rfl) ?_
        (repeat (go_big_quiet_step (fail)))
        refine wpQuiet_nil ?_
        rintro _ ⟨x2, rfl⟩
        go_wp2
        go_roundw
        case rel => exact ⟨k + 1, by omega, by go_num, upto_succ9 hs hq, sk9⟩
        case measure => simp [intOf]; omega
    · have ik : ¬ (k : Int) < (n : Int) := by omega
      go_wp2
      go_ret
      exact ⟨by rw [show sameC l l2 = true from same_all (by omega) (fun j hj => hs j (by omega))]; rfl, sk9⟩

theorem equalC_is {ao ao2 : Option Addr} {n n2 cap cap2 : Nat} {l l2 : List Cl} {w : World} {b : Bool} (h : sameC l l2 = b) (hl : Lay fCl w ao n l) (hl2 : Lay fCl w ao2 n2 l2) (hn : n ≤ 9223372036854775807) (hn2 : n2 ≤ 9223372036854775807) :
    Calls Tryz.prog 111 #[.slice ao n cap, .slice ao2 n2 cap2] w fun e w' => e = .returned (.bool b) ∧ ∃ y, w' = plus w y := h ▸ equalC_calls ao ao2 n n2 cap cap2 l l2 w hl hl2 hn hn2

theorem sameT_w {W H W2 H2 : Int} {l l2 : List Cl} (h : ¬ W = W2) : sameT W H l W2 H2 l2 = false := by simp [sameT, h]

theorem sameT_h {W H W2 H2 : Int} {l l2 : List Cl} (h : ¬ H = H2) : sameT W H l W2 H2 l2 = false := by simp [sameT, h]

theorem sameT_l {W H : Int} {l l2 : List Cl} : sameT W H l W H l2 = sameC l l2 := by simp [sameT]

set_option maxHeartbeats 2000000 in
theorem tsame_calls (W H : Int) (ao : Option Addr) (n cap : Nat) (l : List Cl) (W2 H2 : Int) (ao2 : Option Addr) (n2 cap2 : Nat) (l2 : List Cl) (w : World) (hl : Lay fCl w ao n l) (hl2 : Lay fCl w ao2 n2 l2) (hn : n ≤ 9223372036854775807) (hn2 : n2 ≤ 9223372036854775807) :
    Calls Tryz.prog 60 #[.agg #[.int .i64 W, .int .i64 H, .slice ao n cap], .agg #[.int .i64 W2, .int .i64 H2, .slice ao2 n2 cap2]] w fun e w' => e = .returned (.bool (sameT W H l W2 H2 l2)) ∧ ∃ y, w' = plus w y := by
  by_cases hw : W = W2
  rotate_left
  · rw [sameT_w hw]
    have dq : (W == W2) = false := by rw [beq_eq_false_iff_ne]; exact hw
    go_enter Tryz.func60, Tryz.ntmps60
    go_wp2
    go_ret
    exact ⟨rfl, sk9⟩
  by_cases hh : H = H2
  rotate_left
  · rw [sameT_h hh]
    have dq : (H == H2) = false := by rw [beq_eq_false_iff_ne]; exact hh
    subst hw
    go_enter Tryz.func60, Tryz.ntmps60
    go_wp2
    go_ret
    exact ⟨rfl, sk9⟩
  subst hw hh
  rw [sameT_l]
  cases hq : sameC l l2
  all_goals
    go_enter Tryz.func60, Tryz.ntmps60
    go_wp2_with (go_at_call 111; refine (equalC_is hq (hl.ex sk9) (hl2.ex sk9) hn hn2).mono ?_; rintro e w' ⟨rfl, nx, rfl⟩)
    go_ret
    exact ⟨rfl, sk9⟩

theorem tsame_is {W H : Int} {ao : Option Addr} {n cap : Nat} {l : List Cl} {W2 H2 : Int} {ao2 : Option Addr} {n2 cap2 : Nat} {l2 : List Cl} {w : World} {b : Bool} (h : sameT W H l W2 H2 l2 = b) (hl : Lay fCl w ao n l) (hl2 : Lay fCl w ao2 n2 l2) (hn : n ≤ 9223372036854775807) (hn2 : n2 ≤ 9223372036854775807) :
    Calls Tryz.prog 60 #[.agg #[.int .i64 W, .int .i64 H, .slice ao n cap], .agg #[.int .i64 W2, .int .i64 H2, .slice ao2 n2 cap2]] w fun e w' => e = .returned (.bool b) ∧ ∃ y, w' = plus w y := h ▸ tsame_calls W H ao n cap l W2 H2 ao2 n2 cap2 l2 w hl hl2 hn hn2

end

section


open Go.RowKit Go.ChangeShapes Go.WideShapes Go.ChangeAt

set_option linter.unusedSimpArgs false

set_option linter.unusedVariables false

attribute [local go_sem] plus_size plus_drew dn_set dn_alloc dn_plus plus_dn cell_plus frozen_plus set_plus cell_alloc frozen_alloc set_alloc

def sameTp (a b : Tp) : Bool := sameT a.w a.h a.l b.w b.h b.l

def sameTps (l l2 : List Tp) : Bool := sameL sameTp tp0 l l2

end

section


open Go.RowKit Go.ChangeShapes Go.WideShapes Go.ChangeAt

set_option linter.unusedSimpArgs false

set_option linter.unusedVariables false

attribute [local go_sem] plus_size plus_drew dn_set dn_alloc dn_plus plus_dn cell_plus frozen_plus set_plus cell_alloc frozen_alloc set_alloc

attribute [local go_sem] eqarr_40 nearr_40 larr_40

attribute [local go_sem] eqarr_137 nearr_137 larr_137

attribute [local go_sem] isnil_47

attribute [local go_sem] isnil_57

attribute [local go_sem] isnil_58

attribute [local go_sem] isnil_59

set_option maxHeartbeats 4000000 in
theorem same_calls (va ua pa : Option Addr) (vn vc un uc pn pc : Nat) (hs : List PH) (xa ya za : Option Addr) (xn xc yn yc zn zc : Nat) (gs : List PH) (m o : Ms) (w : World) (hm : MeshAt w ⟨va, vn, vc, ua, un, uc, pa, pn, pc⟩ hs m) (hm2 : MeshAt w ⟨xa, xn, xc, ya, yn, yc, za, zn, zc⟩ gs o) (hf : FewM hs) (hg : FewM gs) (s1 : vn ≤ 1000) (s2 : un ≤ 1000) (s3 : pn ≤ 100) (s4 : xn ≤ 1000) (s5 : yn ≤ 1000) (s6 : zn ≤ 100) :
    Calls Tryz.prog 58 #[.agg #[.slice va vn vc, .slice ua un uc, .slice pa pn pc], .agg #[.slice xa xn xc, .slice ya yn yc, .slice za zn zc]] w fun e w' => e = .returned (.bool (sameMs m o)) ∧ Below w.heap.size w w' := by
  have hvl : Lay fV w va vn m.vs := hm.vl
  have hul : Lay f2 w ua un m.uv := hm.ul
  have hpl : Lay fP w pa pn hs := hm.pl
  have hpp : PrimsAt w hs m.ps := hm.pp
  have hxl : Lay fV w xa xn o.vs := hm2.vl
  have hyl : Lay f2 w ya yn o.uv := hm2.ul
  have hql : Lay fP w za zn gs := hm2.pl
  have hqq : PrimsAt w gs o.ps := hm2.pp
  have lv := hvl.len
  have lu := hul.len
  have lp := hpl.len
  have lpp := hpp.len
  have lx := hxl.len
  have ly := hyl.len
  have lq := hql.len
  have lqq := hqq.len
  cases h1 : sameV m.vs o.vs
  · rw [show sameMs m o = false by rw [sameMs, h1, Bool.false_and, Bool.false_and]]
    go_enter Tryz.func58, Tryz.ntmps58
    go_wp2_with (first | (go_at_call 107; refine (plus_post (equalV_calls _ _ _ _ _ _ m.vs o.vs _ (hvl.ex skM) (hxl.ex skM) (by omega) (by omega))).mono ?_; rintro e w' ⟨rfl, nx, rfl⟩; rw [h1]) | (go_at_call 108; refine (plus_post (equal2_calls _ _ _ _ _ _ m.uv o.uv _ (hul.ex skM) (hyl.ex skM) (by omega) (by omega))).mono ?_; rintro e w' ⟨rfl, nx, rfl⟩; rw [h2]) | (go_at_call 109; refine (plus_post (equalFunc_calls _ _ _ _ _ _ hs gs m.ps o.ps _ (hpl.ex skM) (hql.ex skM) (hpp.ex skM) (hqq.ex skM) hf hg (by omega) (by omega))).mono ?_; rintro e w' ⟨rfl, nx, rfl⟩; rw [h3]))
    go_ret
    exact ⟨rfl, skB⟩
  cases h2 : same2 m.uv o.uv
  · rw [show sameMs m o = false by rw [sameMs, h2, Bool.and_false, Bool.false_and]]
    go_enter Tryz.func58, Tryz.ntmps58
    go_wp2_with (first | (go_at_call 107; refine (plus_post (equalV_calls _ _ _ _ _ _ m.vs o.vs _ (hvl.ex skM) (hxl.ex skM) (by omega) (by omega))).mono ?_; rintro e w' ⟨rfl, nx, rfl⟩; rw [h1]) | (go_at_call 108; refine (plus_post (equal2_calls _ _ _ _ _ _ m.uv o.uv _ (hul.ex skM) (hyl.ex skM) (by omega) (by omega))).mono ?_; rintro e w' ⟨rfl, nx, rfl⟩; rw [h2]) | (go_at_call 109; refine (plus_post (equalFunc_calls _ _ _ _ _ _ hs gs m.ps o.ps _ (hpl.ex skM) (hql.ex skM) (hpp.ex skM) (hqq.ex skM) hf hg (by omega) (by omega))).mono ?_; rintro e w' ⟨rfl, nx, rfl⟩; rw [h3]))
    go_ret
    exact ⟨rfl, skB⟩
  cases h3 : samePs m.ps o.ps
  · rw [show sameMs m o = false by rw [sameMs, h3, Bool.and_false]]
    go_enter Tryz.func58, Tryz.ntmps58
    go_wp2_with (first | (go_at_call 107; refine (plus_post (equalV_calls _ _ _ _ _ _ m.vs o.vs _ (hvl.ex skM) (hxl.ex skM) (by omega) (by omega))).mono ?_; rintro e w' ⟨rfl, nx, rfl⟩; rw [h1]) | (go_at_call 108; refine (plus_post (equal2_calls _ _ _ _ _ _ m.uv o.uv _ (hul.ex skM) (hyl.ex skM) (by omega) (by omega))).mono ?_; rintro e w' ⟨rfl, nx, rfl⟩; rw [h2]) | (go_at_call 109; refine (plus_post (equalFunc_calls _ _ _ _ _ _ hs gs m.ps o.ps _ (hpl.ex skM) (hql.ex skM) (hpp.ex skM) (hqq.ex skM) hf hg (by omega) (by omega))).mono ?_; rintro e w' ⟨rfl, nx, rfl⟩; rw [h3]))
    go_ret
    exact ⟨rfl, skB⟩
  · rw [show sameMs m o = true by rw [sameMs, h1, h2, h3]; rfl]
    go_enter Tryz.func58, Tryz.ntmps58
    go_wp2_with (first | (go_at_call 107; refine (plus_post (equalV_calls _ _ _ _ _ _ m.vs o.vs _ (hvl.ex skM) (hxl.ex skM) (by omega) (by omega))).mono ?_; rintro e w' ⟨rfl, nx, rfl⟩; rw [h1]) | (go_at_call 108; refine (plus_post (equal2_calls _ _ _ _ _ _ m.uv o.uv _ (hul.ex skM) (hyl.ex skM) (by omega) (by omega))).mono ?_; rintro e w' ⟨rfl, nx, rfl⟩; rw [h2]) | (go_at_call 109; refine (plus_post (equalFunc_calls _ _ _ _ _ _ hs gs m.ps o.ps _ (hpl.ex skM) (hql.ex skM) (hpp.ex skM) (hqq.ex skM) hf hg (by omega) (by omega))).mono ?_; rintro e w' ⟨rfl, nx, rfl⟩; rw [h3]))
    go_ret
    exact ⟨rfl, skB⟩

end

section


open Go.RowKit Go.ChangeShapes Go.WideShapes Go.ChangeAt

set_option linter.unusedSimpArgs false

set_option linter.unusedVariables false

attribute [local go_sem] plus_size plus_drew dn_set dn_alloc dn_plus plus_dn cell_plus frozen_plus set_plus cell_alloc frozen_alloc set_alloc

theorem lay_part {α : Type} {f : α → List Value} {d : α} {w : World} {g off n k c : Nat} {l : List α} (hl : l.length = n) (hc : ∀ x, (f x).length = c) (h : ∀ j u, (l.flatMap f)[j]? = some u → w.cell? ⟨g, off + j, none⟩ = some u) (hk : k < n) :
    ∀ j v, (f (nth d l k))[j]? = some v → w.cell? ⟨g, off + k * c + j, none⟩ = some v := by
  intro j v hj
  have hjc : j < c := by rw [← hc (nth d l k)]; exact (List.getElem?_eq_some_iff.1 hj).1
  rw [Nat.add_assoc]
  exact cell_nth (d := d) hl hc h k j v hk hjc hj

def sameNds (l l2 : List Nd) : Bool := sameL sameNd nd0 l l2

def sameMss (l l2 : List Ms) : Bool := sameL sameMs ms0 l l2

def sameSc (a b : Sc) : Bool := sameG a.g b.g && (sameTps a.ts b.ts && (decide (a.root = b.root) && (sameNds a.ns b.ns && sameMss a.ms b.ms)))

structure Small (x : SX) : Prop where
  n : ∀ k, k < x.nh.length → (nth nh0 x.nh k).n ≤ 10000
  m : ∀ k, k < x.mh.length → (nth mh0 x.mh k).vn ≤ 1000 ∧ (nth mh0 x.mh k).un ≤ 1000 ∧ (nth mh0 x.mh k).pn ≤ 100 ∧ FewM (nth [] x.ph k)

end

section


open Go.RowKit

def leafKids (n : Nd) (r : List (Int × Int)) : Bool := decide (n.f.kind = 5) && decide (0 < r.length)

def nodeOk (s : Sc) (k : Nat) : Bool :=
  !(((nth dSl s.g.sl k).live && !mayNd s.ms.length s.ts.length (nth nd0 s.ns k)) || ((!(nth dSl s.g.sl k).live && !sameNd (nth nd0 s.ns k) nd0) || leafKids (nth nd0 s.ns k) (nth [] s.g.ks k)))

def nodesOk (s : Sc) : Bool := (List.range s.ns.length).all (nodeOk s)

def rootOk (s : Sc) (h : Int × Int) : Bool := decide (h = (0, 0)) || heldIn s.g.sl h.1 h.2

def maySc (s : Sc) : Bool := grOk s.g && (decide (s.ns.length = s.g.ks.length) && (storesOk s && (nodesOk s && rootOk s s.root)))

def scErr (s : Sc) : Int := if maySc s then 0 else 8

structure Ed where
  kind : Int
  h : Int × Int
  c : Int × Int
  p : Int
  n : Nd
  m : Ms
  t : Tp

def putAt {α : Type} (l : List α) (k : Nat) (x : α) : List α := if k < l.length then l.set k x else l ++ [x]

def placeErr (at_ : Int) (many most : Nat) (wrong : Int) : Int :=
  if at_ < -1 ∨ (many : Int) ≤ at_ then 2 else if wrong ≠ 0 then wrong else if at_ < 0 ∧ most ≤ many then 9 else 0

def placeAt (at_ : Int) (many : Nat) : Nat := if at_ < 0 then many else at_.toNat

def texErr (t : Tp) : Int := if mayTp t then 0 else 8

def edErr (s : Sc) (e : Ed) : Int :=
  if e.kind = 1 then (if mayNd s.ms.length s.ts.length e.n then makeGErr s.g else 8)
  else if e.kind = 2 then (if heldIn s.g.sl e.h.1 e.h.2 then (if mayNd s.ms.length s.ts.length e.n then (if leafKids e.n (nth [] s.g.ks e.h.1.toNat) then 100 else 0) else 8) else 50)
  else if e.kind = 3 then (if heldIn s.g.sl e.h.1 e.h.2 ∧ heldIn s.g.sl e.c.1 e.c.2 then (if (nth nd0 s.ns e.h.1.toNat).f.kind = 5 then 100 else linkErr s.g e.h e.c e.p) else 50)
  else if e.kind = 4 then unlinkErr s.g e.h e.p
  else if e.kind = 5 then askErr s.g e.h e.h
  else if e.kind = 6 then placeErr e.p s.ms.length 32 (msErr e.m)
  else if e.kind = 7 then placeErr e.p s.ts.length 16 (texErr e.t)
  else if e.kind = 8 then (if rootOk s e.h then 0 else 50)
  else 2

def edSc (s : Sc) (e : Ed) : Sc :=
  if e.kind = 1 then ⟨makeG s.g, putAt s.ns (freeAt s.g.sl) e.n, s.ms, s.ts, s.root⟩
  else if e.kind = 2 then ⟨s.g, s.ns.set e.h.1.toNat e.n, s.ms, s.ts, s.root⟩
  else if e.kind = 3 then ⟨linkG s.g e.h e.c e.p, s.ns, s.ms, s.ts, s.root⟩
  else if e.kind = 4 then ⟨unlinkG s.g e.h e.p, s.ns, s.ms, s.ts, s.root⟩
  else if e.kind = 5 then ⟨killG s.g e.h, s.ns.set e.h.1.toNat nd0, s.ms, s.ts, if s.root = e.h then (0, 0) else s.root⟩
  else if e.kind = 6 then ⟨s.g, s.ns, putAt s.ms (placeAt e.p s.ms.length) e.m, s.ts, s.root⟩
  else if e.kind = 7 then ⟨s.g, s.ns, s.ms, putAt s.ts (placeAt e.p s.ts.length) e.t, s.root⟩
  else ⟨s.g, s.ns, s.ms, s.ts, e.h⟩

def doErr (s : Sc) (e : Ed) : Int := if maySc s then edErr s e else 8

def doSc (s : Sc) (e : Ed) : Sc := if doErr s e = 0 then edSc s e else sc0

def tookH (s : Sc) (e : Ed) : Int × Int := if doErr s e = 0 ∧ e.kind = 1 then (mkSlot s.g.sl, mkGen s.g.sl) else (0, 0)

def tookN (s : Sc) (e : Ed) : Int := if doErr s e = 0 then (if e.kind = 6 then placeAt e.p s.ms.length else if e.kind = 7 then placeAt e.p s.ts.length else 0) else 0

theorem sameI_eq {a b : List Int} (h : sameI a b = true) : a = b := by
  simp only [sameI, sameL, Bool.and_eq_true, beq_iff_eq, List.all_eq_true, List.mem_range] at h
  exact ext_nth (d := 0) h.1 fun k hk => by simpa [eqI] using h.2 k hk

theorem sameNd_eq {a b : Nd} (h : sameNd a b = true) : a = b := by
  obtain ⟨⟨ak, am, ao, ac, ae, ay⟩, af⟩ := a
  obtain ⟨⟨bk, bm, bo, bc, be, by_⟩, bf⟩ := b
  simp only [sameNd, Bool.and_eq_true, decide_eq_true_eq] at h
  obtain ⟨rfl, hm, rfl, hc, hf, rfl, hs⟩ := h
  rw [eqmt_eq hm, eqv_eq hc, sameI_eq hf, eqsy_eq hs]

theorem may_parts {s : Sc} (h : maySc s = true) : grOk s.g = true ∧ s.ns.length = s.g.ks.length ∧ storesOk s = true ∧ (∀ k, k < s.ns.length → nodeOk s k = true) ∧ rootOk s s.root = true := by
  simp only [maySc, nodesOk, Bool.and_eq_true, decide_eq_true_eq, List.all_eq_true, List.mem_range] at h
  exact ⟨h.1, h.2.1, h.2.2.1, h.2.2.2.1, h.2.2.2.2⟩

theorem may_mk {s : Sc} (h1 : grOk s.g = true) (h2 : s.ns.length = s.g.ks.length) (h3 : storesOk s = true) (h4 : ∀ k, k < s.ns.length → nodeOk s k = true) (h5 : rootOk s s.root = true) : maySc s = true := by
  simp only [maySc, nodesOk, Bool.and_eq_true, decide_eq_true_eq, List.all_eq_true, List.mem_range]
  exact ⟨h1, h2, h3, h4, h5⟩

theorem node_ok {s : Sc} {k : Nat} : nodeOk s k = true ↔ ((nth dSl s.g.sl k).live = true → mayNd s.ms.length s.ts.length (nth nd0 s.ns k) = true) ∧ ((nth dSl s.g.sl k).live = false → nth nd0 s.ns k = nd0) ∧ ((nth nd0 s.ns k).f.kind = 5 → (nth [] s.g.ks k).length = 0) := by
  unfold nodeOk leafKids
  constructor
  · intro h
    simp only [Bool.not_eq_true', Bool.or_eq_false_iff, Bool.and_eq_false_iff, Bool.not_eq_false', decide_eq_false_iff_not] at h
    obtain ⟨h1, h2, h3⟩ := h
    refine ⟨fun e => ?_, fun e => ?_, fun e => ?_⟩
    · rcases h1 with h1 | h1
      · rw [e] at h1; cases h1
      · exact h1
    · rcases h2 with h2 | h2
      · rw [e] at h2; cases h2
      · exact sameNd_eq h2
    · rcases h3 with h3 | h3
      · exact absurd e h3
      · omega
  · rintro ⟨h1, h2, h3⟩
    cases hv : (nth dSl s.g.sl k).live
    · rw [h2 hv, sameNd_refl]
      simp [nd0, nf0]
    · rw [h1 hv]
      by_cases h5 : (nth nd0 s.ns k).f.kind = 5
      · simp [h3 h5]
      · simp [h5]

theorem mayNd_more {a b a' b' : Nat} {n : Nd} (h : mayNd a b n = true) (ha : a ≤ a') (hb : b ≤ b') : mayNd a' b' n = true := by
  simp only [mayNd, Bool.and_eq_true, Bool.not_eq_true', Bool.and_eq_false_iff, decide_eq_false_iff_not] at h ⊢
  obtain ⟨h1, h2, h3, h4, h5, h6, h7⟩ := h
  refine ⟨h1, h2, ?_, h4, h5, h6, ?_⟩
  · rcases h3 with h3 | h3
    · exact .inl h3
    · exact .inr (by omega)
  · split
    · rename_i e
      rw [if_pos e] at h7
      simp only [decide_eq_true_eq] at h7 ⊢
      omega
    · rename_i e
      rw [if_neg e] at h7
      exact h7

theorem putAt_len {α : Type} {l : List α} {k : Nat} {x : α} : (putAt l k x).length = if k < l.length then l.length else l.length + 1 := by
  unfold putAt
  split <;> simp

theorem nth_putAt {α : Type} {d x : α} {l : List α} {k j : Nat} (hk : k ≤ l.length) : nth d (putAt l k x) j = if j = k then x else nth d l j := by
  unfold putAt
  split
  · rename_i h
    exact nth_set' h
  · obtain rfl : k = l.length := by omega
    split
    · rename_i e; subst e; rw [nth_append_right (Nat.le_refl _), Nat.sub_self]; rfl
    · by_cases hj : j < l.length
      · rw [nth_append_left hj]
      · rw [nth_ge (l := l) (by omega), nth_ge (by simp; omega)]

theorem stores_parts {s : Sc} (h : storesOk s = true) : (∀ m, m ∈ s.ms → msErr m = 0) ∧ (∀ t, t ∈ s.ts → mayTp t = true) ∧ s.ms.length ≤ 32 ∧ s.ts.length ≤ 16 := by
  simp only [storesOk, Bool.and_eq_true, List.all_eq_true, decide_eq_true_eq, edMsOk] at h
  exact ⟨h.1, h.2.1, h.2.2.1, h.2.2.2⟩

theorem stores_mk {s : Sc} (h1 : ∀ m, m ∈ s.ms → msErr m = 0) (h2 : ∀ t, t ∈ s.ts → mayTp t = true) (h3 : s.ms.length ≤ 32) (h4 : s.ts.length ≤ 16) : storesOk s = true := by
  simp only [storesOk, Bool.and_eq_true, List.all_eq_true, decide_eq_true_eq, edMsOk]
  exact ⟨h1, h2, h3, h4⟩

theorem mem_putAt {α : Type} {l : List α} {k : Nat} {x y : α} (h : y ∈ putAt l k x) : y ∈ l ∨ y = x := by
  unfold putAt at h
  split at h
  · exact (List.mem_or_eq_of_mem_set h)
  · rcases List.mem_append.1 h with h | h
    · exact .inl h
    · simp at h; exact .inr h

theorem place_ok {at_ : Int} {many most : Nat} {wrong : Int} (h : placeErr at_ many most wrong = 0) : placeAt at_ many ≤ many ∧ wrong = 0 ∧ (placeAt at_ many = many → many < most) := by
  unfold placeErr at h
  split at h
  · cases h
  split at h
  · rename_i h1 h2; exact absurd h h2
  split at h
  · cases h
  rename_i h1 h2 h3
  unfold placeAt
  split
  · exact ⟨Nat.le_refl _, by omega, fun _ => by omega⟩
  · exact ⟨by omega, by omega, fun _ => by omega⟩

theorem makeG_err {g : Gr} (hg : grOk g = true) : makeGErr g = mkErr g.sl := by unfold makeGErr; rw [if_pos hg]

theorem ed_may {s : Sc} {e : Ed} (h : maySc s = true) (he : edErr s e = 0) : maySc (edSc s e) = true := by
  obtain ⟨hg, hl, hst, hn, hr⟩ := may_parts h
  obtain ⟨g1, g2, g3, g4⟩ := gr_parts hg
  unfold edErr at he
  unfold edSc
  split at he
  · -- Make
    rename_i hk
    rw [if_pos hk]
    split at he
    · rename_i hm
      rw [makeG_err hg] at he
      have hfl := freeAt_le s.g.sl
      have hok := makeG_ok hg he
      obtain ⟨_, o2, _, _⟩ := gr_parts hok
      have hml := mkList_len s.g.sl
      refine may_mk hok ?_ hst ?_ ?_
      · show (putAt s.ns (freeAt s.g.sl) e.n).length = (makeG s.g).ks.length
        rw [o2, putAt_len]
        show _ = (mkList s.g.sl).length
        rw [hml, hl, g2]
      · intro k hk
        rw [node_ok]
        show ((nth dSl (mkList s.g.sl) k).live = true → mayNd s.ms.length s.ts.length (nth nd0 (putAt s.ns (freeAt s.g.sl) e.n) k) = true) ∧ ((nth dSl (mkList s.g.sl) k).live = false → nth nd0 (putAt s.ns (freeAt s.g.sl) e.n) k = nd0) ∧ ((nth nd0 (putAt s.ns (freeAt s.g.sl) e.n) k).f.kind = 5 → (nth [] (makeG s.g).ks k).length = 0)
        rw [nth_putAt (by omega), makeG_row]
        by_cases hkq : k = freeAt s.g.sl
        · rw [if_pos hkq]
          have hlive : (nth dSl (mkList s.g.sl) k).live = true := by
            rw [hkq]
            unfold mkList
            split
            · rename_i hf
              rw [nth_set' hf, if_pos rfl]
            · rename_i hf
              have : freeAt s.g.sl = s.g.sl.length := by omega
              rw [this, nth_append_right (Nat.le_refl _), Nat.sub_self]; rfl
          refine ⟨fun _ => hm, fun e2 => (by rw [hlive] at e2; cases e2), fun _ => ?_⟩
          by_cases hin : k < s.g.ks.length
          · rcases (rows_at g3 hin).2.1 with h0 | h0
            · exact h0
            · have := (free_gen (freeAt_here (l := s.g.sl) (by omega))).1
              rw [hkq, this] at h0
              cases h0
          · rw [nth_ge (by omega)]; rfl
        · rw [if_neg hkq]
          have hsame : (nth dSl (mkList s.g.sl) k) = nth dSl s.g.sl k := by
            unfold mkList
            split
            · rename_i hf
              rw [nth_set' hf, if_neg hkq]
            · by_cases hkl : k < s.g.sl.length
              · rw [nth_append_left hkl]
              · rw [nth_ge (l := s.g.sl) (by omega), nth_ge (by simp; omega)]
          rw [hsame]
          by_cases hin : k < s.ns.length
          · exact node_ok.1 (hn k hin)
          · rw [nth_ge (l := s.ns) (by omega), nth_ge (l := s.g.sl) (by omega), nth_ge (l := s.g.ks) (by omega)]
            exact ⟨fun e2 => (by cases e2), fun _ => rfl, fun _ => rfl⟩
      · show rootOk ⟨makeG s.g, _, s.ms, s.ts, s.root⟩ s.root = true
        unfold rootOk at hr ⊢
        rw [Bool.or_eq_true] at hr ⊢
        exact hr.imp id held_make
    · cases he
  split at he
  · -- Set
    rename_i k1 hk
    rw [if_neg k1, if_pos hk]
    split at he
    · rename_i hh
      split at he
      · rename_i hm
        split at he
        · cases he
        · rename_i hkids
          have hlt := held_lt hh
          refine may_mk hg (by rw [List.length_set]; exact hl) hst ?_ hr
          intro k hkl
          rw [node_ok]
          show ((nth dSl s.g.sl k).live = true → mayNd s.ms.length s.ts.length (nth nd0 (s.ns.set e.h.1.toNat e.n) k) = true) ∧ ((nth dSl s.g.sl k).live = false → nth nd0 (s.ns.set e.h.1.toNat e.n) k = nd0) ∧ ((nth nd0 (s.ns.set e.h.1.toNat e.n) k).f.kind = 5 → (nth [] s.g.ks k).length = 0)
          rw [nth_set' (by omega)]
          split
          · rename_i hkq
            subst hkq
            refine ⟨fun _ => hm, fun e2 => ?_, fun e5 => ?_⟩
            · rw [(held_spec.1 hh).2.1] at e2; cases e2
            · simp only [leafKids, e5] at hkids
              simp at hkids
              simp [hkids]
          · exact node_ok.1 (hn k (by simpa using hkl))
      · cases he
    · cases he
  split at he
  · -- Link
    rename_i k1 k2 hk
    rw [if_neg k1, if_neg k2, if_pos hk]
    split at he
    · split at he
      · cases he
      · rename_i hh h5
        have hlt := held_lt hh.1
        obtain ⟨_, _, _, p0, p1, _, _⟩ := link_parts he
        refine may_mk (linkG_ok he) (by show s.ns.length = (s.g.ks.set _ _).length; rw [List.length_set]; exact hl) hst ?_ hr
        intro k hkl
        have hold := node_ok.1 (hn k hkl)
        rw [node_ok]
        refine ⟨hold.1, hold.2.1, fun e5 => ?_⟩
        show (nth [] (s.g.ks.set e.h.1.toNat _) k).length = 0
        rw [nth_set' (by omega)]
        split
        · rename_i hkq; subst hkq; exact absurd e5 h5
        · exact hold.2.2 e5
    · cases he
  split at he
  · -- Unlink
    rename_i k1 k2 k3 hk
    rw [if_neg k1, if_neg k2, if_neg k3, if_pos hk]
    refine may_mk (unlinkG_ok hg) (by show s.ns.length = (s.g.ks.set _ _).length; rw [List.length_set]; exact hl) hst ?_ hr
    intro k hkl
    have hold := node_ok.1 (hn k hkl)
    rw [node_ok]
    refine ⟨hold.1, hold.2.1, fun e5 => ?_⟩
    show (nth [] (s.g.ks.set e.h.1.toNat _) k).length = 0
    have h0 := hold.2.2 e5
    by_cases hp : e.h.1.toNat < s.g.ks.length
    · rw [nth_set' hp]
      split
      · rename_i hkq
        subst hkq
        have := cut_len (r := rowAt s.g e.h) (k := e.p.toNat)
        unfold rowAt at this ⊢
        have h0' : (nth [] s.g.ks e.h.1.toNat).length = 0 := h0
        omega
      · exact h0
    · rw [List.set_eq_of_length_le (by omega)]
      exact h0
  split at he
  · -- Kill
    rename_i k1 k2 k3 k4 hk
    rw [if_neg k1, if_neg k2, if_neg k3, if_neg k4, if_pos hk]
    unfold askErr at he
    rw [if_pos hg] at he
    split at he
    · rename_i hh
      have hh := hh.1
      have hlt := held_lt hh
      refine may_mk (killG_ok hg hh) ?_ hst ?_ ?_
      · show (s.ns.set _ _).length = ((s.g.ks.map _).set _ _).length
        rw [List.length_set, List.length_set, List.length_map]; exact hl
      · intro k hkl
        have hkl' : k < s.ns.length := by simpa using hkl
        rw [node_ok]
        show ((nth dSl (killList s.g.sl e.h.1) k).live = true → mayNd s.ms.length s.ts.length (nth nd0 (s.ns.set e.h.1.toNat nd0) k) = true) ∧ ((nth dSl (killList s.g.sl e.h.1) k).live = false → nth nd0 (s.ns.set e.h.1.toNat nd0) k = nd0) ∧ ((nth nd0 (s.ns.set e.h.1.toNat nd0) k).f.kind = 5 → (nth [] (killG s.g e.h).ks k).length = 0)
        rw [kill_row (by omega), nth_set' (by omega)]
        unfold killList
        rw [nth_set' (by omega)]
        split
        · exact ⟨fun e2 => (by cases e2), fun _ => rfl, fun _ => rfl⟩
        · have hold := node_ok.1 (hn k hkl')
          refine ⟨hold.1, hold.2.1, fun e5 => ?_⟩
          have h0 := hold.2.2 e5
          have := List.length_filter_le (fun x => !decide (x = e.h)) (nth [] s.g.ks k)
          unfold without
          omega
      · show rootOk ⟨killG s.g e.h, _, s.ms, s.ts, _⟩ (if s.root = e.h then (0, 0) else s.root) = true
        unfold rootOk at hr ⊢
        split
        · rfl
        · rename_i hne
          rw [Bool.or_eq_true] at hr ⊢
          refine hr.imp id fun hx => ?_
          exact held_kill (s := e.h.1) (g := e.h.2) hh hx hne
    · cases he
  split at he
  · -- Mesh
    rename_i k1 k2 k3 k4 k5 hk
    rw [if_neg k1, if_neg k2, if_neg k3, if_neg k4, if_neg k5, if_pos hk]
    obtain ⟨p1, p2, p3⟩ := place_ok he
    obtain ⟨m1, m2, m3, m4⟩ := stores_parts hst
    have hlen := putAt_len (l := s.ms) (k := placeAt e.p s.ms.length) (x := e.m)
    refine may_mk hg hl (stores_mk ?_ m2 ?_ m4) ?_ hr
    · intro m hm
      rcases mem_putAt hm with hm | rfl
      · exact m1 m hm
      · exact p2
    · show (putAt s.ms _ _).length ≤ 32
      rw [hlen]
      split <;> omega
    · intro k hkl
      have hold := node_ok.1 (hn k hkl)
      rw [node_ok]
      refine ⟨fun e2 => mayNd_more (hold.1 e2) ?_ (Nat.le_refl _), hold.2.1, hold.2.2⟩
      show s.ms.length ≤ (putAt s.ms _ _).length
      rw [hlen]
      split <;> omega
  split at he
  · -- Texture
    rename_i k1 k2 k3 k4 k5 k6 hk
    rw [if_neg k1, if_neg k2, if_neg k3, if_neg k4, if_neg k5, if_neg k6, if_pos hk]
    obtain ⟨p1, p2, p3⟩ := place_ok he
    obtain ⟨m1, m2, m3, m4⟩ := stores_parts hst
    have hlen := putAt_len (l := s.ts) (k := placeAt e.p s.ts.length) (x := e.t)
    refine may_mk hg hl (stores_mk m1 ?_ m3 ?_) ?_ hr
    · intro t ht
      rcases mem_putAt ht with ht | rfl
      · exact m2 t ht
      · unfold texErr at p2
        split at p2
        · assumption
        · cases p2
    · show (putAt s.ts _ _).length ≤ 16
      rw [hlen]
      split <;> omega
    · intro k hkl
      have hold := node_ok.1 (hn k hkl)
      rw [node_ok]
      refine ⟨fun e2 => mayNd_more (hold.1 e2) (Nat.le_refl _) ?_, hold.2.1, hold.2.2⟩
      show s.ts.length ≤ (putAt s.ts _ _).length
      rw [hlen]
      split <;> omega
  split at he
  · -- Root
    rename_i k1 k2 k3 k4 k5 k6 k7 hk
    rw [if_neg k1, if_neg k2, if_neg k3, if_neg k4, if_neg k5, if_neg k6, if_neg k7]
    split at he
    · rename_i hro
      exact may_mk hg hl hst hn hro
    · cases he
  · cases he

theorem do_may {s : Sc} {e : Ed} (he : doErr s e = 0) : maySc (doSc s e) = true := by
  unfold doSc
  rw [if_pos he]
  unfold doErr at he
  split at he
  · rename_i hm
    exact ed_may hm he
  · cases he

end

end Go.Proofs.YtcekcihijdipoaaGreat
