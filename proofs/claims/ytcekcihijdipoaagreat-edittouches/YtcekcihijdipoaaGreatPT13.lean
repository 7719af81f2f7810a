/- A pack of texts: EdSame, StOpen, EdNm, EdNm2, Rel4. -/
import Derived.Laws.Tables
import Derived.Deep.DeepCutAuto
import Derived.Test.YtcekcihijdipoaaGreatPT10
import Derived.Test.YtcekcihijdipoaaGreatPT11
import Derived.Test.YtcekcihijdipoaaGreatPT12
import Derived.Test.YtcekcihijdipoaaGreatPT1
import Derived.Test.YtcekcihijdipoaaGreatPT2
import Derived.Test.YtcekcihijdipoaaGreatPT8
import Derived.Test.YtcekcihijdipoaaGreatPT5
import Derived.Test.YtcekcihijdipoaaGreatPT3
import Derived.Test.YtcekcihijdipoaaGreatPT4
namespace Go.Proofs.YtcekcihijdipoaaGreat

section


open Go.RowKit Go.ChangeShapes Go.WideShapes Go.ChangeAt

set_option linter.unusedSimpArgs false

set_option linter.unusedVariables false

attribute [local go_sem] plus_size plus_drew dn_set dn_alloc dn_plus plus_dn cell_plus frozen_plus set_plus cell_alloc frozen_alloc set_alloc

set_option maxHeartbeats 4000000 in
theorem lsame10_calls (h : SH) (x : SX) (s : Sc) (h' : SH) (x' : SX) (s' : Sc) (w : World) (hA : ScAt w h x s) (hA' : ScAt w h' x' s') {v : Bool} (hv : sameSc s s' = v) :
    Calls Tryz.prog 20 #[vS h, vS h'] w fun e w' => e = .returned (.bool v) ∧ ∃ y, w' = plus w y := by
  have hG := hA.g
  have hR := hA.r
  have f := hA.f
  have hG' := hA'.g
  have hR' := hA'.r
  have f' := hA'.f
  have q1 := hA.nn.1
  have q2 := hA.mn.1
  have q3 := hA.tn.1
  have p1 := f.nn
  have p2 := f.mn
  have p3 := f.tn
  clear hA hA'
  obtain ⟨ga, gn, gc, ka, kn, kc, na, nn, nc, ma, mn, mc, ta, tn, tc, r0, r1⟩ := h
  obtain ⟨ga', gn', gc', ka', kn', kc', na', nn', nc', ma', mn', mc', ta', tn', tc', r0', r1'⟩ := h'
  have nl := hR.nl
  have ns := hR.ns
  have ml := hR.ml
  have ms := hR.ms
  have tl := hR.tl
  have ts := hR.ts
  have n3 := hR.n3
  have n1 := hR.n1
  have n2 := hR.n2
  have hr := hR.root
  simp only at nl ml ms tl ts n1 n2 n3 hr hG
  clear hR
  have nlen := nl.len
  have nlen2 := ns.len
  have mlen := ml.len
  have mlen2 := ms.len
  have nl' := hR'.nl
  have ns' := hR'.ns
  have ml' := hR'.ml
  have ms' := hR'.ms
  have tl' := hR'.tl
  have ts' := hR'.ts
  have n3' := hR'.n3
  have n1' := hR'.n1
  have n2' := hR'.n2
  have hr' := hR'.root
  simp only at nl' ml' ms' tl' ts' n1' n2' n3' hr' hG'
  clear hR'
  have nlen' := nl'.len
  have nlen2' := ns'.len
  have mlen' := ml'.len
  have mlen2' := ms'.len
  unfold vS
  simp only at q1 q2 q3 ⊢
  obtain ⟨b1, hb1⟩ : ∃ b, sameG s.g s'.g = b := ⟨_, rfl⟩
  obtain ⟨b2, hb2⟩ : ∃ b, sameNds s.ns s'.ns = b := ⟨_, rfl⟩
  obtain ⟨b3, hb3⟩ : ∃ b, sameMss s.ms s'.ms = b := ⟨_, rfl⟩
  obtain ⟨b4, hb4⟩ : ∃ b, sameTps s.ts s'.ts = b := ⟨_, rfl⟩
  obtain ⟨b5, hb5⟩ : ∃ b, eqh r0 r1 r0' r1' = b := ⟨_, rfl⟩
  have qH := eqH_is hb5
  have hroot : decide (s.root = s'.root) = b5 := by
    rw [hr, hr', ← hb5]
    by_cases e0 : r0 = r0' <;> by_cases e1 : r1 = r1' <;> simp [eqh, e0, e1]
  have hres : (b1 && (b2 && (b3 && (b4 && b5)))) = v := by
    rw [← hv, sameSc, hb1, hb2, hb3, hb4, hroot]
    cases b1 <;> cases b2 <;> cases b3 <;> cases b4 <;> cases b5 <;> rfl
  replace hb1 := Hush9.mk hb1
  replace hb2 := Hush9.mk hb2
  replace hb3 := Hush9.mk hb3
  replace hb4 := Hush9.mk hb4
  subst hres
  clear hroot hb5 hr hr' hv
  cases b1
  · go_enter Tryz.func20, Tryz.ntmps20
    go_wp2_with (first | (go_at_call 55; refine (plus_post (hb1.it ▸ nsame_calls _ _ _ _ _ _ x.gr s.g _ _ _ _ _ _ x'.gr s'.g _ (hG.ex sk9) (hG'.ex sk9))).mono ?_; rintro e w' ⟨rfl, nx, rfl⟩) | (go_at_call 56; refine (eqfN_calls _ _ _ _ _ _ x.nh x'.nh s.ns s'.ns _ (by omega) (nl.ex sk9) (nl'.ex sk9) (ns.ex sk9) (ns'.ex sk9) f.ns f'.ns hb2.it).mono ?_; rintro e w' ⟨rfl, nx, rfl⟩) | (go_at_call 57; refine (eqfM_calls _ _ _ _ _ _ x.mh x'.mh x.ph x'.ph s.ms s'.ms _ (by omega) (ml.ex sk9) (ml'.ex sk9) (ms.ex sk9) (ms'.ex sk9) f.ms f'.ms hb3.it).mono ?_; rintro e w' ⟨rfl, nx, rfl⟩) | (go_at_call 59; refine (eqfT_calls _ _ _ _ _ _ x.th x'.th s.ts s'.ts _ (by omega) (tl.ex sk9) (tl'.ex sk9) (ts.ex sk9) (ts'.ex sk9) f.ts f'.ts hb4.it).mono ?_; rintro e w' ⟨rfl, nx, rfl⟩))
    go_ret
    exact ⟨rfl, sk9⟩
  cases b2
  · go_enter Tryz.func20, Tryz.ntmps20
    go_wp2_with (first | (go_at_call 55; refine (plus_post (hb1.it ▸ nsame_calls _ _ _ _ _ _ x.gr s.g _ _ _ _ _ _ x'.gr s'.g _ (hG.ex sk9) (hG'.ex sk9))).mono ?_; rintro e w' ⟨rfl, nx, rfl⟩) | (go_at_call 56; refine (eqfN_calls _ _ _ _ _ _ x.nh x'.nh s.ns s'.ns _ (by omega) (nl.ex sk9) (nl'.ex sk9) (ns.ex sk9) (ns'.ex sk9) f.ns f'.ns hb2.it).mono ?_; rintro e w' ⟨rfl, nx, rfl⟩) | (go_at_call 57; refine (eqfM_calls _ _ _ _ _ _ x.mh x'.mh x.ph x'.ph s.ms s'.ms _ (by omega) (ml.ex sk9) (ml'.ex sk9) (ms.ex sk9) (ms'.ex sk9) f.ms f'.ms hb3.it).mono ?_; rintro e w' ⟨rfl, nx, rfl⟩) | (go_at_call 59; refine (eqfT_calls _ _ _ _ _ _ x.th x'.th s.ts s'.ts _ (by omega) (tl.ex sk9) (tl'.ex sk9) (ts.ex sk9) (ts'.ex sk9) f.ts f'.ts hb4.it).mono ?_; rintro e w' ⟨rfl, nx, rfl⟩))
    go_ret
    exact ⟨rfl, sk9⟩
  cases b3
  · go_enter Tryz.func20, Tryz.ntmps20
    go_wp2_with (first | (go_at_call 55; refine (plus_post (hb1.it ▸ nsame_calls _ _ _ _ _ _ x.gr s.g _ _ _ _ _ _ x'.gr s'.g _ (hG.ex sk9) (hG'.ex sk9))).mono ?_; rintro e w' ⟨rfl, nx, rfl⟩) | (go_at_call 56; refine (eqfN_calls _ _ _ _ _ _ x.nh x'.nh s.ns s'.ns _ (by omega) (nl.ex sk9) (nl'.ex sk9) (ns.ex sk9) (ns'.ex sk9) f.ns f'.ns hb2.it).mono ?_; rintro e w' ⟨rfl, nx, rfl⟩) | (go_at_call 57; refine (eqfM_calls _ _ _ _ _ _ x.mh x'.mh x.ph x'.ph s.ms s'.ms _ (by omega) (ml.ex sk9) (ml'.ex sk9) (ms.ex sk9) (ms'.ex sk9) f.ms f'.ms hb3.it).mono ?_; rintro e w' ⟨rfl, nx, rfl⟩) | (go_at_call 59; refine (eqfT_calls _ _ _ _ _ _ x.th x'.th s.ts s'.ts _ (by omega) (tl.ex sk9) (tl'.ex sk9) (ts.ex sk9) (ts'.ex sk9) f.ts f'.ts hb4.it).mono ?_; rintro e w' ⟨rfl, nx, rfl⟩))
    go_ret
    exact ⟨rfl, sk9⟩
  cases b4
  · go_enter Tryz.func20, Tryz.ntmps20
    go_wp2_with (first | (go_at_call 55; refine (plus_post (hb1.it ▸ nsame_calls _ _ _ _ _ _ x.gr s.g _ _ _ _ _ _ x'.gr s'.g _ (hG.ex sk9) (hG'.ex sk9))).mono ?_; rintro e w' ⟨rfl, nx, rfl⟩) | (go_at_call 56; refine (eqfN_calls _ _ _ _ _ _ x.nh x'.nh s.ns s'.ns _ (by omega) (nl.ex sk9) (nl'.ex sk9) (ns.ex sk9) (ns'.ex sk9) f.ns f'.ns hb2.it).mono ?_; rintro e w' ⟨rfl, nx, rfl⟩) | (go_at_call 57; refine (eqfM_calls _ _ _ _ _ _ x.mh x'.mh x.ph x'.ph s.ms s'.ms _ (by omega) (ml.ex sk9) (ml'.ex sk9) (ms.ex sk9) (ms'.ex sk9) f.ms f'.ms hb3.it).mono ?_; rintro e w' ⟨rfl, nx, rfl⟩) | (go_at_call 59; refine (eqfT_calls _ _ _ _ _ _ x.th x'.th s.ts s'.ts _ (by omega) (tl.ex sk9) (tl'.ex sk9) (ts.ex sk9) (ts'.ex sk9) f.ts f'.ts hb4.it).mono ?_; rintro e w' ⟨rfl, nx, rfl⟩))
    go_ret
    exact ⟨rfl, sk9⟩
  cases b5
  · go_enter Tryz.func20, Tryz.ntmps20
    go_wp2_with (first | (go_at_call 55; refine (plus_post (hb1.it ▸ nsame_calls _ _ _ _ _ _ x.gr s.g _ _ _ _ _ _ x'.gr s'.g _ (hG.ex sk9) (hG'.ex sk9))).mono ?_; rintro e w' ⟨rfl, nx, rfl⟩) | (go_at_call 56; refine (eqfN_calls _ _ _ _ _ _ x.nh x'.nh s.ns s'.ns _ (by omega) (nl.ex sk9) (nl'.ex sk9) (ns.ex sk9) (ns'.ex sk9) f.ns f'.ns hb2.it).mono ?_; rintro e w' ⟨rfl, nx, rfl⟩) | (go_at_call 57; refine (eqfM_calls _ _ _ _ _ _ x.mh x'.mh x.ph x'.ph s.ms s'.ms _ (by omega) (ml.ex sk9) (ml'.ex sk9) (ms.ex sk9) (ms'.ex sk9) f.ms f'.ms hb3.it).mono ?_; rintro e w' ⟨rfl, nx, rfl⟩) | (go_at_call 59; refine (eqfT_calls _ _ _ _ _ _ x.th x'.th s.ts s'.ts _ (by omega) (tl.ex sk9) (tl'.ex sk9) (ts.ex sk9) (ts'.ex sk9) f.ts f'.ts hb4.it).mono ?_; rintro e w' ⟨rfl, nx, rfl⟩))
    go_ret
    exact ⟨rfl, sk9⟩
  · go_enter Tryz.func20, Tryz.ntmps20
    go_wp2_with (first | (go_at_call 55; refine (plus_post (hb1.it ▸ nsame_calls _ _ _ _ _ _ x.gr s.g _ _ _ _ _ _ x'.gr s'.g _ (hG.ex sk9) (hG'.ex sk9))).mono ?_; rintro e w' ⟨rfl, nx, rfl⟩) | (go_at_call 56; refine (eqfN_calls _ _ _ _ _ _ x.nh x'.nh s.ns s'.ns _ (by omega) (nl.ex sk9) (nl'.ex sk9) (ns.ex sk9) (ns'.ex sk9) f.ns f'.ns hb2.it).mono ?_; rintro e w' ⟨rfl, nx, rfl⟩) | (go_at_call 57; refine (eqfM_calls _ _ _ _ _ _ x.mh x'.mh x.ph x'.ph s.ms s'.ms _ (by omega) (ml.ex sk9) (ml'.ex sk9) (ms.ex sk9) (ms'.ex sk9) f.ms f'.ms hb3.it).mono ?_; rintro e w' ⟨rfl, nx, rfl⟩) | (go_at_call 59; refine (eqfT_calls _ _ _ _ _ _ x.th x'.th s.ts s'.ts _ (by omega) (tl.ex sk9) (tl'.ex sk9) (ts.ex sk9) (ts'.ex sk9) f.ts f'.ts hb4.it).mono ?_; rintro e w' ⟨rfl, nx, rfl⟩))
    go_ret
    exact ⟨rfl, sk9⟩

end

section


open Go.RowKit Go.ChangeShapes Go.WideShapes Go.ChangeAt

set_option linter.unusedSimpArgs false

set_option linter.unusedVariables false

attribute [local go_sem] plus_size plus_drew dn_set dn_alloc dn_plus plus_dn cell_plus frozen_plus set_plus cell_alloc frozen_alloc set_alloc

def fSy (s : Sy) : List Value := [.int .u8 s.s0, .int .u8 s.s1, .int .u8 s.s2, .int .u8 s.s3, .int .u8 s.s4, .int .u8 s.l.r, .int .u8 s.l.g, .int .u8 s.l.b, .int .u8 s.l.a, .int .i64 s.l.tx, .int .u8 s.l.cu, .int .i64 s.l.bi, .bool s.l.bl, .int .i64 s.l.bn]

section

variable {H : Type} {enc : TypeId × Value → H} {P : Program} {W : World} {base : Nat} {spare : Nat → Bool} {held : Bool} {t : TypeId}

end

end

section


open Go.RowKit Go.ChangeShapes Go.WideShapes Go.ChangeAt

set_option linter.unusedSimpArgs false

set_option linter.unusedVariables false

attribute [local go_sem] plus_size plus_drew dn_set dn_alloc dn_plus plus_dn cell_plus frozen_plus set_plus cell_alloc frozen_alloc set_alloc

def namedF (f : NF) : NF := ⟨f.kind, if f.kind = 2 then f.m else zeroM, if f.kind = 3 then f.on else 0, if f.kind = 4 then f.cen else zeroV, if f.kind = 5 then f.mesh else 0, f.sty⟩

def namedNd (n : Nd) : Nd := ⟨namedF n.f, if n.f.kind = 4 then n.far else []⟩

def namedH (h : NH) : NH := if h.f.kind = 4 then ⟨namedF h.f, h.ao, h.n, h.cap⟩ else ⟨namedF h.f, none, 0, 0⟩

def syL (y : Sy) : List Value := [.int .u8 y.s0, .int .u8 y.s1, .int .u8 y.s2, .int .u8 y.s3, .int .u8 y.s4, .int .u8 y.l.r, .int .u8 y.l.g, .int .u8 y.l.b, .int .u8 y.l.a, .int .i64 y.l.tx, .int .u8 y.l.cu, .int .i64 y.l.bi, .bool y.l.bl, .int .i64 y.l.bn]

def mtL (m : Mt) : List Value := [.int .i64 m.m.a.x, .int .i64 m.m.a.y, .int .i64 m.m.a.z, .int .i64 m.m.b.x, .int .i64 m.m.b.y, .int .i64 m.m.b.z, .int .i64 m.m.c.x, .int .i64 m.m.c.y, .int .i64 m.m.c.z, .int .i64 m.t.x, .int .i64 m.t.y, .int .i64 m.t.z]

def v3L (v : V3) : List Value := [.int .i64 v.x, .int .i64 v.y, .int .i64 v.z]

def bareH (k : Int) (y : Sy) : NH := ⟨⟨k, zeroM, 0, zeroV, 0, y⟩, none, 0, 0⟩

theorem namedNd_at {h : NH} {n : Nd} {w : World} (a : NodeAt w h n) : NodeAt w (namedH h) (namedNd n) := by
  have hf := a.f
  unfold namedH namedNd
  rw [← hf]
  split
  · exact ⟨rfl, ⟨a.b.kind |> (by rw [hf]; exact ·), by unfold namedF; rw [hf]; simp only; split; exact a.b.on; exact ⟨by decide, by decide⟩, by rw [hf]; exact a.b.sty⟩, a.le, a.cap, a.nil, a.lay⟩
  · exact ⟨rfl, ⟨by rw [hf]; exact a.b.kind, by unfold namedF; rw [hf]; simp only; split; exact a.b.on; exact ⟨by decide, by decide⟩, by rw [hf]; exact a.b.sty⟩, by simp, by simp, fun _ => ⟨rfl, rfl⟩, Lay.nil⟩

theorem sty_drop (h : NH) : ∀ j v, (syL h.f.sty)[j]? = some v → (fN h)[19 + j]? = some v := by
  intro j v hv
  rw [← List.getElem?_drop]
  exact hv

theorem mt_drop (h : NH) : ∀ j v, (mtL h.f.m)[j]? = some v → (fN h)[1 + j]? = some v := by
  intro j v hv
  have hj : j < 12 := (List.getElem?_eq_some_iff.1 hv).1
  have : ((fN h).drop 1).take 12 = mtL h.f.m := rfl
  rw [← this, List.getElem?_take, if_pos hj, List.getElem?_drop] at hv
  exact hv

theorem v3_drop (h : NH) : ∀ j v, (v3L h.f.cen)[j]? = some v → (fN h)[14 + j]? = some v := by
  intro j v hv
  have hj : j < 3 := (List.getElem?_eq_some_iff.1 hv).1
  have : ((fN h).drop 14).take 3 = v3L h.f.cen := rfl
  rw [← this, List.getElem?_take, if_pos hj, List.getElem?_drop] at hv
  exact hv

theorem mtL_1 (y : Mt) : ∀ u ∈ mtL y, u.oneCell' = true := by
  intro u hu
  simp only [mtL, List.mem_cons, List.not_mem_nil, or_false] at hu
  rcases hu with rfl | rfl | rfl | rfl | rfl | rfl | rfl | rfl | rfl | rfl | rfl | rfl <;> rfl

theorem v3L_1 (y : V3) : ∀ u ∈ v3L y, u.oneCell' = true := by
  intro u hu
  simp only [v3L, List.mem_cons, List.not_mem_nil, or_false] at hu
  rcases hu with rfl | rfl | rfl <;> rfl

theorem built_node (k : Int) (y : Sy) : Tryz.prog.built 56 [(0, .int .u8 k), (6, .agg (syL y).toArray)] = some (fN (bareH k y)).toArray := by kernel_rfl

end

section


open Go.RowKit Go.ChangeShapes Go.WideShapes Go.ChangeAt

set_option linter.unusedSimpArgs false

set_option linter.unusedVariables false

attribute [local go_sem] plus_size plus_drew dn_set dn_alloc dn_plus plus_dn cell_plus frozen_plus set_plus cell_alloc frozen_alloc set_alloc

theorem wpList_build_is {P : Program} {ops : Array Oper} {rest : List Oper} {o : Oper} {a : Act} {w : World} {Q : Exit → Act → World → Prop} (hg : o.guard = none) (t : TypeId) (parts : Array (Nat × Operand)) (ho : o.op = .build t parts) (cs : List Value)
    (hf : P.built t (parts.map fun (i, x) => (i, a.eval x)).toList = some cs.toArray) (h : wpList P ops Q rest (a.put o.dst (.agg cs.toArray)) w) : wpList P ops Q (o :: rest) a w :=
  wpList_build hg t parts ho (by rw [hf]; rfl) (by rw [hf]; exact h)

set_option maxRecDepth 100000 in
set_option maxHeartbeats 2000000 in
theorem named_k0 (kd : Int) (h : NH) (hk : h.f.kind = kd) (n2 : kd ≠ 2) (n3 : kd ≠ 3) (n4 : kd ≠ 4) (n5 : kd ≠ 5) (w : World) : Calls Tryz.prog 49 #[vN h] w fun e w' => e = .returned (vN (namedH h)) ∧ ∃ y, w' = plus w y := by
  show Calls Tryz.prog 49 #[.agg (fN h).toArray] w fun e w' => e = .returned (vN (namedH h)) ∧ ∃ y, w' = plus w y
  rw [show namedH h = bareH kd h.f.sty by simp [namedH, namedF, hk, n2, n3, n4, n5]; rfl]
  have hsty := sty_drop h
  have hmt := mt_drop h
  have hv3 := v3_drop h
  have hkind := kind_at h
  have hfar := far_at h
  have hon : (fN h)[13]? = some (.int .u16 h.f.on) := rfl
  have hme : (fN h)[18]? = some (.int .i64 h.f.mesh) := rfl
  rw [hk] at hkind
  obtain ⟨cs, hcs⟩ : ∃ cs, fN h = cs := ⟨_, rfl⟩
  rw [hcs] at hsty hmt hv3 hkind hfar hon hme ⊢
  have hc : cs.length = 33 := by rw [← hcs]; rfl
  have h1 : ∀ v ∈ cs, v.oneCell' = true := by rw [← hcs]; exact fN_1 h
  obtain ⟨b, hb⟩ : ∃ b, w.heap.size = b := ⟨_, rfl⟩
  clear hcs
  have d2 : (kd == 2) = false := by rw [beq_eq_false_iff_ne]; exact n2
  have d3 : (kd == 3) = false := by rw [beq_eq_false_iff_ne]; exact n3
  have d4 : (kd == 4) = false := by rw [beq_eq_false_iff_ne]; exact n4
  have d5 : (kd == 5) = false := by rw [beq_eq_false_iff_ne]; exact n5
  go_enter Tryz.func49, Tryz.ntmps49
  go_upto_region 1 with fail
  refine name_w (fun w' => (∃ y, w' = plus w y) ∧ w'.heap[b]? = some (.cells cs.toArray 56) ∧ (∃ z : List Value, w'.heap[b + 1]? = some (.cells z.toArray 56) ∧ z.length = 33) ∧ w'.heap.size = b + 2) ⟨sk9, hb ▸ blk_old (blk_new2 _ _), ⟨_, by rw [← hb, ← size_alloc w]; exact blk_new2 _ _, rfl⟩, by rw [size_alloc, size_alloc, hb]⟩ ?_
  try simp only [hb]
  rintro w1 ⟨x1, k1, ⟨z, k2, hz⟩, z1⟩
  have p0 := cell_of k1 hkind
  go_upto_region 2 with (first | (refine wpList_load_part rfl 54 _ rfl b 19 rfl (syL h.f.sty) _ (fun j v hv => cell_of k1 (hsty j v hv)) Tryz.underlying54 rfl (by kernel_rfl) ?_) | (refine wpList_build_is rfl 56 _ rfl (fN (bareH kd h.f.sty)) ?hf ?_; case hf => simp only [List.map_toArray, List.map_cons, List.map_nil]; exact built_node _ _) | (refine wpList_store_box rfl 56 _ _ rfl (b + 2) (fN (bareH kd h.f.sty)) (by simp [go_sem, z1]) rfl _ _ (by rw [← z1]; exact blk_new2 _ _) (by kernel_rfl) (by kernel_rfl) (fN_1 _) ?_))
  refine name_w (fun w' => (∃ y, w' = plus w1 y) ∧ w'.heap[b + 2]? = some (.cells (fN (bareH kd h.f.sty)).toArray 56) ∧ w'.heap.size = b + 3) ⟨ex_row_new sk9 (by omega), by rw [← z1]; exact blk_row_eq (blk_new2 _ _), by rw [setRow_size, size_alloc, z1]⟩ ?_
  rintro w2 ⟨x2, k3, z2⟩
  have q0 := cell_ex x2 p0
  go_upto_region 11 with fail
  refine name_w (fun w' => (∃ y, w' = plus w y) ∧ w'.heap[b + 2]? = some (.cells (fN (bareH kd h.f.sty)).toArray 56) ∧ w'.heap[b + 1]? = some (.cells z.toArray 56)) ⟨ex_trans x1 x2, k3, blk_ex x2 k2⟩ ?_
  rintro w4 ⟨x4, k5, k6⟩
  go_wp2_with (first | (refine wpList_load_row rfl 56 _ rfl (b + 2) rfl _ _ _ _ k5 Tryz.underlying56 rfl (by kernel_rfl) ?_) | (refine wpList_store_box rfl 56 _ _ rfl (b + 1) (fN (bareH kd h.f.sty)) rfl rfl _ _ k6 (by kernel_rfl) (by rw [fN_c]; simpa using hz) (fN_1 _) ?_))
  exact bodyPost_ret (v := vN (bareH kd h.f.sty)) (results_cell_row Tryz.results49 _ _ (b + 1) 56 _ _ _ rfl (blk_row_eq k6) Tryz.underlying56 rfl (by kernel_rfl)) rfl ⟨rfl, ex_row_new x4 (by omega)⟩

set_option maxRecDepth 100000 in
set_option maxHeartbeats 2000000 in
theorem named_k2 (h : NH) (hk : h.f.kind = 2) (w : World) : Calls Tryz.prog 49 #[vN h] w fun e w' => e = .returned (vN (namedH h)) ∧ ∃ y, w' = plus w y := by
  show Calls Tryz.prog 49 #[.agg (fN h).toArray] w fun e w' => e = .returned (vN (namedH h)) ∧ ∃ y, w' = plus w y
  rw [show namedH h = ⟨⟨2, h.f.m, 0, zeroV, 0, h.f.sty⟩, none, 0, 0⟩ by simp [namedH, namedF, hk]]
  have hsty := sty_drop h
  have hmt := mt_drop h
  have hv3 := v3_drop h
  have hkind := kind_at h
  have hfar := far_at h
  have hon : (fN h)[13]? = some (.int .u16 h.f.on) := rfl
  have hme : (fN h)[18]? = some (.int .i64 h.f.mesh) := rfl
  rw [hk] at hkind
  obtain ⟨cs, hcs⟩ : ∃ cs, fN h = cs := ⟨_, rfl⟩
  rw [hcs] at hsty hmt hv3 hkind hfar hon hme ⊢
  have hc : cs.length = 33 := by rw [← hcs]; rfl
  have h1 : ∀ v ∈ cs, v.oneCell' = true := by rw [← hcs]; exact fN_1 h
  obtain ⟨b, hb⟩ : ∃ b, w.heap.size = b := ⟨_, rfl⟩
  clear hcs
  go_enter Tryz.func49, Tryz.ntmps49
  go_upto_region 1 with fail
  refine name_w (fun w' => (∃ y, w' = plus w y) ∧ w'.heap[b]? = some (.cells cs.toArray 56) ∧ (∃ z : List Value, w'.heap[b + 1]? = some (.cells z.toArray 56) ∧ z.length = 33) ∧ w'.heap.size = b + 2) ⟨sk9, hb ▸ blk_old (blk_new2 _ _), ⟨_, by rw [← hb, ← size_alloc w]; exact blk_new2 _ _, rfl⟩, by rw [size_alloc, size_alloc, hb]⟩ ?_
  try simp only [hb]
  rintro w1 ⟨x1, k1, ⟨z, k2, hz⟩, z1⟩
  have p0 := cell_of k1 hkind
  go_upto_region 2 with (first | (refine wpList_load_part rfl 54 _ rfl b 19 rfl (syL h.f.sty) _ (fun j v hv => cell_of k1 (hsty j v hv)) Tryz.underlying54 rfl (by kernel_rfl) ?_) | (refine wpList_build_is rfl 56 _ rfl (fN (bareH 2 h.f.sty)) ?hf ?_; case hf => simp only [List.map_toArray, List.map_cons, List.map_nil]; exact built_node _ _) | (refine wpList_store_box rfl 56 _ _ rfl (b + 2) (fN (bareH 2 h.f.sty)) (by simp [go_sem, z1]) rfl _ _ (by rw [← z1]; exact blk_new2 _ _) (by kernel_rfl) (by kernel_rfl) (fN_1 _) ?_))
  refine name_w (fun w' => (∃ y, w' = plus w1 y) ∧ w'.heap[b + 2]? = some (.cells (fN (bareH 2 h.f.sty)).toArray 56) ∧ w'.heap.size = b + 3) ⟨ex_row_new sk9 (by omega), by rw [← z1]; exact blk_row_eq (blk_new2 _ _), by rw [setRow_size, size_alloc, z1]⟩ ?_
  rintro w2 ⟨x2, k3, z2⟩
  have q0 := cell_ex x2 p0
  go_upto_region 11 with (first | (refine wpList_load_part rfl 45 _ rfl b 1 rfl (mtL h.f.m) _ (fun j v hv => cell_ex x2 (cell_of k1 (hmt j v hv))) Tryz.underlying45 rfl (by kernel_rfl) ?_) | (refine wpList_store_part rfl 45 _ _ rfl (b + 2) 1 (mtL h.f.m) rfl rfl _ _ k3 (by kernel_rfl) (Nat.le_of_ble_eq_true (by kernel_rfl)) (mtL_1 _) ?_))
  refine name_w (fun w' => (∃ y, w' = plus w y) ∧ w'.heap[b + 2]? = some (.cells (fN (⟨⟨2, h.f.m, 0, zeroV, 0, h.f.sty⟩, none, 0, 0⟩)).toArray 56) ∧ w'.heap[b + 1]? = some (.cells z.toArray 56)) ⟨ex_row_new (ex_trans x1 x2) (by omega), blk_row_eq k3, blk_row_far (blk_ex x2 k2) (by omega)⟩ ?_
  rintro w4 ⟨x4, k5, k6⟩
  go_wp2_with (first | (refine wpList_load_row rfl 56 _ rfl (b + 2) rfl _ _ _ _ k5 Tryz.underlying56 rfl (by kernel_rfl) ?_) | (refine wpList_store_box rfl 56 _ _ rfl (b + 1) (fN (⟨⟨2, h.f.m, 0, zeroV, 0, h.f.sty⟩, none, 0, 0⟩)) rfl rfl _ _ k6 (by kernel_rfl) (by rw [fN_c]; simpa using hz) (fN_1 _) ?_))
  exact bodyPost_ret (v := vN (⟨⟨2, h.f.m, 0, zeroV, 0, h.f.sty⟩, none, 0, 0⟩)) (results_cell_row Tryz.results49 _ _ (b + 1) 56 _ _ _ rfl (blk_row_eq k6) Tryz.underlying56 rfl (by kernel_rfl)) rfl ⟨rfl, ex_row_new x4 (by omega)⟩

set_option maxRecDepth 100000 in
set_option maxHeartbeats 2000000 in
theorem named_k3 (h : NH) (hk : h.f.kind = 3) (w : World) : Calls Tryz.prog 49 #[vN h] w fun e w' => e = .returned (vN (namedH h)) ∧ ∃ y, w' = plus w y := by
  show Calls Tryz.prog 49 #[.agg (fN h).toArray] w fun e w' => e = .returned (vN (namedH h)) ∧ ∃ y, w' = plus w y
  rw [show namedH h = ⟨⟨3, zeroM, h.f.on, zeroV, 0, h.f.sty⟩, none, 0, 0⟩ by simp [namedH, namedF, hk]]
  have hsty := sty_drop h
  have hmt := mt_drop h
  have hv3 := v3_drop h
  have hkind := kind_at h
  have hfar := far_at h
  have hon : (fN h)[13]? = some (.int .u16 h.f.on) := rfl
  have hme : (fN h)[18]? = some (.int .i64 h.f.mesh) := rfl
  rw [hk] at hkind
  obtain ⟨cs, hcs⟩ : ∃ cs, fN h = cs := ⟨_, rfl⟩
  rw [hcs] at hsty hmt hv3 hkind hfar hon hme ⊢
  have hc : cs.length = 33 := by rw [← hcs]; rfl
  have h1 : ∀ v ∈ cs, v.oneCell' = true := by rw [← hcs]; exact fN_1 h
  obtain ⟨b, hb⟩ : ∃ b, w.heap.size = b := ⟨_, rfl⟩
  clear hcs
  go_enter Tryz.func49, Tryz.ntmps49
  go_upto_region 1 with fail
  refine name_w (fun w' => (∃ y, w' = plus w y) ∧ w'.heap[b]? = some (.cells cs.toArray 56) ∧ (∃ z : List Value, w'.heap[b + 1]? = some (.cells z.toArray 56) ∧ z.length = 33) ∧ w'.heap.size = b + 2) ⟨sk9, hb ▸ blk_old (blk_new2 _ _), ⟨_, by rw [← hb, ← size_alloc w]; exact blk_new2 _ _, rfl⟩, by rw [size_alloc, size_alloc, hb]⟩ ?_
  try simp only [hb]
  rintro w1 ⟨x1, k1, ⟨z, k2, hz⟩, z1⟩
  have p0 := cell_of k1 hkind
  go_upto_region 2 with (first | (refine wpList_load_part rfl 54 _ rfl b 19 rfl (syL h.f.sty) _ (fun j v hv => cell_of k1 (hsty j v hv)) Tryz.underlying54 rfl (by kernel_rfl) ?_) | (refine wpList_build_is rfl 56 _ rfl (fN (bareH 3 h.f.sty)) ?hf ?_; case hf => simp only [List.map_toArray, List.map_cons, List.map_nil]; exact built_node _ _) | (refine wpList_store_box rfl 56 _ _ rfl (b + 2) (fN (bareH 3 h.f.sty)) (by simp [go_sem, z1]) rfl _ _ (by rw [← z1]; exact blk_new2 _ _) (by kernel_rfl) (by kernel_rfl) (fN_1 _) ?_))
  refine name_w (fun w' => (∃ y, w' = plus w1 y) ∧ w'.heap[b + 2]? = some (.cells (fN (bareH 3 h.f.sty)).toArray 56) ∧ w'.heap.size = b + 3) ⟨ex_row_new sk9 (by omega), by rw [← z1]; exact blk_row_eq (blk_new2 _ _), by rw [setRow_size, size_alloc, z1]⟩ ?_
  rintro w2 ⟨x2, k3, z2⟩
  have q0 := cell_ex x2 p0
  have q1 := cell_ex x2 (cell_of k1 hon)
  have q2 := cell_of (i := 13) k3 rfl
  have q3 := frozen_blk (i := 13) k3
  go_upto_region 11 with fail
  refine name_w (fun w' => (∃ y, w' = plus w y) ∧ w'.heap[b + 2]? = some (.cells (fN (⟨⟨3, zeroM, h.f.on, zeroV, 0, h.f.sty⟩, none, 0, 0⟩)).toArray 56) ∧ w'.heap[b + 1]? = some (.cells z.toArray 56)) ⟨ex_set_new (ex_trans x1 x2) (by omega), by have := blk_set (i := 13) (u := .int .u16 h.f.on) k3; exact this, blk_set_far (blk_ex x2 k2) (by omega)⟩ ?_
  rintro w4 ⟨x4, k5, k6⟩
  go_wp2_with (first | (refine wpList_load_row rfl 56 _ rfl (b + 2) rfl _ _ _ _ k5 Tryz.underlying56 rfl (by kernel_rfl) ?_) | (refine wpList_store_box rfl 56 _ _ rfl (b + 1) (fN (⟨⟨3, zeroM, h.f.on, zeroV, 0, h.f.sty⟩, none, 0, 0⟩)) rfl rfl _ _ k6 (by kernel_rfl) (by rw [fN_c]; simpa using hz) (fN_1 _) ?_))
  exact bodyPost_ret (v := vN (⟨⟨3, zeroM, h.f.on, zeroV, 0, h.f.sty⟩, none, 0, 0⟩)) (results_cell_row Tryz.results49 _ _ (b + 1) 56 _ _ _ rfl (blk_row_eq k6) Tryz.underlying56 rfl (by kernel_rfl)) rfl ⟨rfl, ex_row_new x4 (by omega)⟩

set_option maxRecDepth 100000 in
set_option maxHeartbeats 2000000 in
theorem named_k5 (h : NH) (hk : h.f.kind = 5) (w : World) : Calls Tryz.prog 49 #[vN h] w fun e w' => e = .returned (vN (namedH h)) ∧ ∃ y, w' = plus w y := by
  show Calls Tryz.prog 49 #[.agg (fN h).toArray] w fun e w' => e = .returned (vN (namedH h)) ∧ ∃ y, w' = plus w y
  rw [show namedH h = ⟨⟨5, zeroM, 0, zeroV, h.f.mesh, h.f.sty⟩, none, 0, 0⟩ by simp [namedH, namedF, hk]]
  have hsty := sty_drop h
  have hmt := mt_drop h
  have hv3 := v3_drop h
  have hkind := kind_at h
  have hfar := far_at h
  have hon : (fN h)[13]? = some (.int .u16 h.f.on) := rfl
  have hme : (fN h)[18]? = some (.int .i64 h.f.mesh) := rfl
  rw [hk] at hkind
  obtain ⟨cs, hcs⟩ : ∃ cs, fN h = cs := ⟨_, rfl⟩
  rw [hcs] at hsty hmt hv3 hkind hfar hon hme ⊢
  have hc : cs.length = 33 := by rw [← hcs]; rfl
  have h1 : ∀ v ∈ cs, v.oneCell' = true := by rw [← hcs]; exact fN_1 h
  obtain ⟨b, hb⟩ : ∃ b, w.heap.size = b := ⟨_, rfl⟩
  clear hcs
  go_enter Tryz.func49, Tryz.ntmps49
  go_upto_region 1 with fail
  refine name_w (fun w' => (∃ y, w' = plus w y) ∧ w'.heap[b]? = some (.cells cs.toArray 56) ∧ (∃ z : List Value, w'.heap[b + 1]? = some (.cells z.toArray 56) ∧ z.length = 33) ∧ w'.heap.size = b + 2) ⟨sk9, hb ▸ blk_old (blk_new2 _ _), ⟨_, by rw [← hb, ← size_alloc w]; exact blk_new2 _ _, rfl⟩, by rw [size_alloc, size_alloc, hb]⟩ ?_
  try simp only [hb]
  rintro w1 ⟨x1, k1, ⟨z, k2, hz⟩, z1⟩
  have p0 := cell_of k1 hkind
  go_upto_region 2 with (first | (refine wpList_load_part rfl 54 _ rfl b 19 rfl (syL h.f.sty) _ (fun j v hv => cell_of k1 (hsty j v hv)) Tryz.underlying54 rfl (by kernel_rfl) ?_) | (refine wpList_build_is rfl 56 _ rfl (fN (bareH 5 h.f.sty)) ?hf ?_; case hf => simp only [List.map_toArray, List.map_cons, List.map_nil]; exact built_node _ _) | (refine wpList_store_box rfl 56 _ _ rfl (b + 2) (fN (bareH 5 h.f.sty)) (by simp [go_sem, z1]) rfl _ _ (by rw [← z1]; exact blk_new2 _ _) (by kernel_rfl) (by kernel_rfl) (fN_1 _) ?_))
  refine name_w (fun w' => (∃ y, w' = plus w1 y) ∧ w'.heap[b + 2]? = some (.cells (fN (bareH 5 h.f.sty)).toArray 56) ∧ w'.heap.size = b + 3) ⟨ex_row_new sk9 (by omega), by rw [← z1]; exact blk_row_eq (blk_new2 _ _), by rw [setRow_size, size_alloc, z1]⟩ ?_
  rintro w2 ⟨x2, k3, z2⟩
  have q0 := cell_ex x2 p0
  have q1 := cell_ex x2 (cell_of k1 hme)
  have q2 := cell_of (i := 18) k3 rfl
  have q3 := frozen_blk (i := 18) k3
  go_upto_region 11 with fail
  refine name_w (fun w' => (∃ y, w' = plus w y) ∧ w'.heap[b + 2]? = some (.cells (fN (⟨⟨5, zeroM, 0, zeroV, h.f.mesh, h.f.sty⟩, none, 0, 0⟩)).toArray 56) ∧ w'.heap[b + 1]? = some (.cells z.toArray 56)) ⟨ex_set_new (ex_trans x1 x2) (by omega), by have := blk_set (i := 18) (u := .int .i64 h.f.mesh) k3; exact this, blk_set_far (blk_ex x2 k2) (by omega)⟩ ?_
  rintro w4 ⟨x4, k5, k6⟩
  go_wp2_with (first | (refine wpList_load_row rfl 56 _ rfl (b + 2) rfl _ _ _ _ k5 Tryz.underlying56 rfl (by kernel_rfl) ?_) | (refine wpList_store_box rfl 56 _ _ rfl (b + 1) (fN (⟨⟨5, zeroM, 0, zeroV, h.f.mesh, h.f.sty⟩, none, 0, 0⟩)) rfl rfl _ _ k6 (by kernel_rfl) (by rw [fN_c]; simpa using hz) (fN_1 _) ?_))
  exact bodyPost_ret (v := vN (⟨⟨5, zeroM, 0, zeroV, h.f.mesh, h.f.sty⟩, none, 0, 0⟩)) (results_cell_row Tryz.results49 _ _ (b + 1) 56 _ _ _ rfl (blk_row_eq k6) Tryz.underlying56 rfl (by kernel_rfl)) rfl ⟨rfl, ex_row_new x4 (by omega)⟩

end

section


open Go.RowKit

section

variable {P : Program} {md : Region.Mode} {ops : Array Oper} {Q : Exit → Act → World → Prop}

variable {n : Nat} {S : Nat → List Nat} {Φ : Nat → (Nat → Value) → (Nat → Bool) → World → Prop} {a0 : Act} {w0 : World} {G : (Nat → Bool) → World → (Nat → Bool) → World → Prop}

def dn (L : Array Bool) (j : Nat) : Bool := L.getD j false

def also (D : Nat → Bool) (i : Nat) (j : Nat) : Bool := D j || j == i

def noneYet (_ : Nat) : Bool := false

theorem dn_also {L : Array Bool} {i : Nat} (hi : i < L.size) : dn (L.setIfInBounds i true) = also (dn L) i := by
  funext j
  unfold dn also
  by_cases e : i = j
  · subst e
    simp [hi]
  · have e' : ¬ j = i := fun h => e h.symm
    simp [e, e']

structure RelInv4 (G : (Nat → Bool) → World → (Nat → Bool) → World → Prop) (md : Region.Mode) (ops : Array Oper) (n : Nat) (Φ : Nat → (Nat → Value) → (Nat → Bool) → World → Prop) (a0 : Act) (w0 : World) (L : Array Bool) (a : Act) (w : World) : Prop where
  size : L.size = ops.size
  tsz : a.tmps.size = a0.tmps.size
  dfs : a.defers = a0.defers
  free : ∀ s, (∀ (j : Nat) (o : Oper), ops[j]? = some o → L.getD j false = true → o.dst ≠ some s) → got a s = got a0 s
  grow : G noneYet w0 (dn L) w
  rel : ∀ i, L.getD i false = true → Φ i (got a) (dn L) w
  shut : ∀ i k, L.getD i false = true → Region.waitsFor md ops i k = true → L.getD k false = true
  front : ∀ i, n ≤ i → L.getD i false = false

theorem rel_step4 (hG : ∀ D1 w1 D2 w2 D3 w3, G D1 w1 D2 w2 → G D2 w2 D3 w3 → G D1 w1 D3 w3) (hF : RelFacts2 md ops n S a0.tmps.size) (hmono : ∀ i t t' D w D' w', Φ i t D w → (∀ s ∈ S i, t' s = t s) → G D w D' w' → Φ i t' D' w') {L : Array Bool} {a a' : Act} {w w' : World} {i : Nat} {o : Oper} {v : Value}
    (h : RelInv4 G md ops n Φ a0 w0 L a w) (hi : i ∈ Region.ready md ops L) (hin : i < n) (ho : ops[i]? = some o) (ha : a' = a.put o.dst v) (hw : G (dn L) w (also (dn L) i) w') (hΦ : Φ i (upd (got a) o.dst v) (also (dn L) i) w') :
    RelInv4 G md ops n Φ a0 w0 (L.setIfInBounds i true) a' w' := by
  obtain ⟨hiL, hiS⟩ := getD_false2 (mem_ready.1 hi).1
  rw [← dn_also hiS] at hw hΦ
  have hgp : got a' = upd (got a) o.dst v := by
    rw [ha]
    exact got_put fun s hs => by rw [h.tsz]; exact hF.slot i o ho s hs
  have hS : Shut md ops ops.size L := fun j k _ hj hk => h.shut j k hj hk
  have hset : ∀ j, (L.setIfInBounds i true).getD j false = true → j = i ∨ L.getD j false = true := by
    intro j hj
    by_cases e : i = j
    · exact .inl e.symm
    · exact .inr (getD_unset L i j e hj)
  have hdeep : ∀ j, deepB md ops ops.size 8 j i = true → L.getD j false = true → False := by
    intro j hd hj
    have := deep_listed hS 8 j i (fun k hk => h.shut j k hj hk) hd
    rw [hiL] at this
    cases this
  refine ⟨by rw [Array.size_setIfInBounds]; exact h.size, ?_, ?_, ?_, hG _ _ _ _ _ _ h.grow hw, ?_, ?_, ?_⟩
  · rw [ha, ← h.tsz]
    cases o.dst <;> simp [Act.put]
  · rw [ha, ← h.dfs]
    cases o.dst <;> simp [Act.put]
  · intro s hs
    have h1 : o.dst ≠ some s := hs i o ho (by simp [hiS])
    rw [hgp]
    unfold upd
    rw [if_neg h1]
    exact h.free s fun j oj hj hL => hs j oj hj (getD_set L i j hL)
  · intro j hj
    rcases hset j hj with rfl | hj'
    · rw [hgp]; exact hΦ
    · by_cases e : j = i
      · subst e; rw [hgp]; exact hΦ
      refine hmono j (got a) (got a') _ w _ w' (h.rel j hj') (fun s hs => ?_) hw
      rw [hgp]
      unfold upd
      by_cases hd : o.dst = some s
      · exfalso
        have hjn : j < n := by
          rcases Nat.lt_or_ge j n with h' | h'
          · exact h'
          · rw [h.front j h'] at hj'; cases hj'
        have hjs : j < ops.size := by
          rw [← h.size]
          rcases Nat.lt_or_ge j L.size with h' | h'
          · exact h'
          · simp [Array.getElem?_eq_none h'] at hj'
        exact hdeep j (hF.late j i o s hjn hjs ho hd hs e) hj'
      · rw [if_neg hd]
  · intro j k hj hk
    rcases hset j hj with rfl | hj'
    · exact getD_set L _ k (waits_ready2 hi hk)
    · exact getD_set L i k (h.shut j k hj' hk)
  · intro j hj
    have e : i ≠ j := by omega
    have h1 := h.front j hj
    cases h2 : (L.setIfInBounds i true).getD j false with
    | false => rfl
    | true => rw [getD_unset L i j e h2] at h1; cases h1

def Steps4 (G : (Nat → Bool) → World → (Nat → Bool) → World → Prop) (P : Program) (md : Region.Mode) (ops : Array Oper) (n : Nat) (Φ : Nat → (Nat → Value) → (Nat → Bool) → World → Prop) (a0 : Act) (w0 : World) (Q : Exit → Act → World → Prop) : List Oper → Nat → Prop
  | [], _ => True
  | o :: r, i => (∀ a D w, G noneYet w0 D w → (∀ s, (ops.any fun o => o.dst == some s) = false → got a s = got a0 s) → (∀ j, deepB md ops ops.size 8 i j = true → Φ j (got a) D w) → D i = false →
      o.wp P a w (fun a' w' => ∃ v, a' = a.put o.dst v ∧ G D w (also D i) w' ∧ Φ i (upd (got a) o.dst v) (also D i) w') Q) ∧ Steps4 G P md ops n Φ a0 w0 Q r (i + 1)

theorem steps_at4 : ∀ (l : List Oper) (k : Nat), Steps4 G P md ops n Φ a0 w0 Q l k → ∀ (i : Nat) (o : Oper), l[i]? = some o → ∀ a D w, G noneYet w0 D w → (∀ s, (ops.any fun o => o.dst == some s) = false → got a s = got a0 s) → (∀ j, deepB md ops ops.size 8 (k + i) j = true → Φ j (got a) D w) → D (k + i) = false →
      o.wp P a w (fun a' w' => ∃ v, a' = a.put o.dst v ∧ G D w (also D (k + i)) w' ∧ Φ (k + i) (upd (got a) o.dst v) (also D (k + i)) w') Q
  | [], _, _, i, o, ho => by simp at ho
  | o :: r, k, h, 0, o', ho => by
    simp only [List.getElem?_cons_zero, Option.some.injEq] at ho
    subst ho
    exact h.1
  | o :: r, k, h, i + 1, o', ho => by
    have := steps_at4 r (k + 1) h.2 i o' (by simpa using ho)
    rwa [show k + 1 + i = k + (i + 1) by omega] at this

theorem free_of4 {a : Act} {L : Array Bool} {w : World} (h : RelInv4 G md ops n Φ a0 w0 L a w) : ∀ s, (ops.any fun o => o.dst == some s) = false → got a s = got a0 s := by
  intro s hs
  refine h.free s fun j o ho _ hd => ?_
  have : (ops.any fun o => o.dst == some s) = true := by
    rw [Array.any_eq_true']
    exact ⟨o, Array.mem_of_getElem? ho, by simp [hd]⟩
  rw [hs] at this
  cases this

theorem region_relD {id : Nat} {l : List Oper} (n : Nat) (S : Nat → List Nat) (Φ : Nat → (Nat → Value) → (Nat → Bool) → World → Prop) {a : Act} {w : World} (G : (Nat → Bool) → World → (Nat → Bool) → World → Prop) (hG : ∀ D1 w1 D2 w2 D3 w3, G D1 w1 D2 w2 → G D2 w2 D3 w3 → G D1 w1 D3 w3) (hd : G noneYet w noneYet { w with drawn := w.drawn + 1 }) (hm : P.follows .mixedOrders = true) (hB : relB2 .any l.toArray n S a.tmps.size = true) (hn : n ≤ l.length)
    (hmono : ∀ i t t' D w D' w', Φ i t D w → (∀ s ∈ S i, t' s = t s) → G D w D' w' → Φ i t' D' w')
    (hst : Steps4 G P .any l.toArray n Φ a w Q (l.take n) 0)
    (hend : ∀ t D w', (∀ j, j < n → D j = true) → G noneYet w D w' → (∀ j, j < n → Φ j t D w') → wpList P l.toArray Q (l.drop n) (putAll t (l.take n) a) w') : (Code.region id l.toArray true).wp P Q a w := by
  have hF := relB_facts2 hB
  have hsize : l.toArray.size = l.length := by simp
  have hrest : ∀ t D w', (∀ j, j < n → D j = true) → G noneYet w D w' → (∀ j, j < n → Φ j t D w') → wpOps P l.toArray Q (List.range' n (l.length - n)) (putAll t (l.take n) a) w' := by
    intro t D w' h0 h1 h2
    have h := hend t D w' h0 h1 h2
    have e := wpOps_eq_wpList (P := P) (Q := Q) (ops := l.toArray) (l.drop n) n (fun j => by simp)
    rw [List.length_drop] at e
    rw [e]
    exact h
  refine wp_region_any hm ?_
  refine wpAny_inv (I := fun L a' w' => (L.size = l.length ∧ RelInv4 G .any l.toArray n Φ a w L a' w') ∨ (L.size = l.length ∧ ∃ i, n ≤ i ∧ i ≤ l.length ∧ (∀ j, L.getD j false = decide (j < i)) ∧ wpOps P l.toArray Q (List.range' i (l.length - i)) a' w')) ?_ ?_ _ _ _ _ ?_ ?_
  · have key : ∀ L a' w' i k, L.size = l.length → n ≤ k → k ≤ l.length → (∀ j, L.getD j false = decide (j < k)) → wpOps P l.toArray Q (List.range' k (l.length - k)) a' w' → i ∈ Region.ready .any l.toArray L →
        wpOp P l.toArray Q i (fun a' w' => ((L.setIfInBounds i true).size = l.length ∧ RelInv4 G .any l.toArray n Φ a w (L.setIfInBounds i true) a' w') ∨ ((L.setIfInBounds i true).size = l.length ∧ ∃ k, n ≤ k ∧ k ≤ l.length ∧ (∀ j, (L.setIfInBounds i true).getD j false = decide (j < k)) ∧ wpOps P l.toArray Q (List.range' k (l.length - k)) a' w')) a' w' := by
      intro L a' w' i k hs hnk hkl hL hw hi
      obtain ⟨hiL, o, ho, hall⟩ := mem_ready.1 hi
      obtain ⟨hiL2, hiS⟩ := getD_false2 hiL
      have hik : k ≤ i := by
        rw [hL i] at hiL2
        simpa using hiL2
      obtain rfl : i = k := by
        rcases Nat.eq_or_lt_of_le hik with e | hlt
        · exact e.symm
        · exfalso
          have hd := hF.last i k (by omega) (by simp; omega) hlt
          have hS : Shut .any l.toArray l.toArray.size L := by
            intro p q hp hp2 hq
            rw [hL p] at hp2
            rw [hL q]
            obtain ⟨oj, h1, e, he, hb, hon⟩ := Region.waitsFor_spec hq
            have := hF.back p oj h1 e he hb
            simp at hp2 ⊢
            omega
          have := deep_listed hS 8 i k (fun q hq => waits_ready2 hi hq) hd
          rw [hL k] at this
          simp at this
      have e1 : List.range' i (l.length - i) = i :: List.range' (i + 1) (l.length - (i + 1)) := by
        rw [show l.length - i = (l.length - (i + 1)) + 1 by omega, List.range'_succ]
      rw [e1, wpOps_cons] at hw
      refine wpOp_mono (fun a2 w2 h2 => .inr ⟨by rw [Array.size_setIfInBounds]; exact hs, i + 1, by omega, by omega, fun j => ?_, h2⟩) hw
      by_cases e : i = j
      · subst e
        simp [hiS]
      · have h3 := hL j
        have h4 : (L.setIfInBounds i true).getD j false = L.getD j false := by simp [e]
        rw [h4, h3]
        have : (j < i) ↔ (j < i + 1) := by omega
        simp [this]
    rintro L a' w' i (⟨hs, h⟩ | ⟨hs, k, hnk, hkl, hL, hw⟩) hi
    · by_cases hin : i < n
      · obtain ⟨hiL, o, ho, hall⟩ := mem_ready.1 hi
        have hS : Shut .any l.toArray l.toArray.size L := fun j k _ hj hk => h.shut j k hj hk
        have hdl : ∀ j, deepB .any l.toArray l.toArray.size 8 i j = true → L.getD j false = true := fun j hd => deep_listed hS 8 i j (fun k hk => waits_ready2 hi hk) hd
        unfold wpOp
        simp only [ho]
        have hwt : Region.wanted o (yielded l.toArray a'.tmps) = true := by simp [Region.wanted, hF.guard i o ho]
        rw [if_pos hwt]
        left
        have hol : (l.take n)[i]? = some o := by rw [List.getElem?_take, if_pos hin]; simpa using ho
        have hw := steps_at4 (l.take n) 0 hst i o hol a' (dn L) w' h.grow (free_of4 h) (fun j hd => h.rel j (hdl j (by rwa [Nat.zero_add] at hd))) (by rw [Nat.zero_add]; exact (getD_false2 hiL).1)
        rw [Nat.zero_add] at hw
        exact Oper.wp_mono (fun a2 w2 ⟨v, e1, e2, e3⟩ => .inl ⟨by rw [Array.size_setIfInBounds]; exact hs, rel_step4 hG hF hmono h hi hin ho e1 e2 e3⟩) hw
      · obtain ⟨hiL, o, ho, hall⟩ := mem_ready.1 hi
        have hil : i < l.length := by simpa using (Array.getElem?_eq_some_iff.1 ho).1
        have hS : Shut .any l.toArray l.toArray.size L := fun j k _ hj hk => h.shut j k hj hk
        have hall2 : ∀ j, j < i → L.getD j false = true := fun j hj => deep_listed hS 8 i j (fun k hk => waits_ready2 hi hk) (hF.last i j (by omega) (by simp; omega) hj)
        have hin2 : i = n := by
          rcases Nat.lt_or_ge n i with h1 | h1
          · have h2 := hall2 n h1
            rw [h.front n (Nat.le_refl _)] at h2
            cases h2
          · omega
        subst hin2
        have ha : a' = putAll (got a') (l.take i) a := by
          have hp := putAll_size (got a') (l.take i) a
          refine act_ext (h.tsz.trans hp.1.symm) (h.dfs.trans hp.2.symm) fun s hs => ?_
          rw [putAll_got _ _ _ _ (by rw [← h.tsz]; exact hs)]
          cases hany : (l.take i).any fun o => o.dst == some s with
          | true => simp
          | false =>
            simp only [Bool.false_eq_true, if_false]
            refine h.free s fun j oj hj hL hd => ?_
            have hjn : j < i := by
              rcases Nat.lt_or_ge j i with h' | h'
              · exact h'
              · rw [h.front j h'] at hL; cases hL
            have : ((l.take i).any fun o => o.dst == some s) = true := List.any_eq_true.2 ⟨oj, List.mem_of_getElem? (i := j) (by rw [List.getElem?_take, if_pos hjn]; simpa using hj), by simp [hd]⟩
            rw [hany] at this
            cases this
        have hw := hrest (got a') (dn L) w' hall2 h.grow (fun j hj => h.rel j (hall2 j hj))
        rw [← ha] at hw
        refine key L a' w' i i hs (Nat.le_refl _) (by omega) (fun j => ?_) hw hi
        by_cases hj : j < i
        · rw [hall2 j hj, decide_eq_true hj]
        · rw [h.front j (by omega), decide_eq_false hj]
    · exact key L a' w' i k hs hnk hkl hL hw hi
  · rintro L a' w' (⟨hs, h⟩ | ⟨hs, k, hnk, hkl, hL, hw⟩) hr
    · have hall := all_listed2 hF (by rw [hs, hsize]) hr
      have hnl : l.length = n := by
        rcases Nat.lt_or_ge n l.length with h1 | h1
        · have := hall n (by simpa using h1)
          rw [h.front n (Nat.le_refl _)] at this
          cases this
        · omega
      have ha : a' = putAll (got a') (l.take n) a := by
        have hp := putAll_size (got a') (l.take n) a
        refine act_ext (h.tsz.trans hp.1.symm) (h.dfs.trans hp.2.symm) fun s hs => ?_
        rw [putAll_got _ _ _ _ (by rw [← h.tsz]; exact hs)]
        cases hany : (l.take n).any fun o => o.dst == some s with
        | true => simp
        | false =>
          simp only [Bool.false_eq_true, if_false]
          refine h.free s fun j oj hj hL hd => ?_
          have hjn : j < n := by
            rcases Nat.lt_or_ge j n with h' | h'
            · exact h'
            · rw [h.front j h'] at hL; cases hL
          have : ((l.take n).any fun o => o.dst == some s) = true := List.any_eq_true.2 ⟨oj, List.mem_of_getElem? (i := j) (by rw [List.getElem?_take, if_pos hjn]; simpa using hj), by simp [hd]⟩
          rw [hany] at this
          cases this
      have hw := hrest (got a') (dn L) w' (fun j hj => hall j (by simp; omega)) h.grow (fun j hj => h.rel j (hall j (by simp; omega)))
      rw [← ha, hnl, Nat.sub_self] at hw
      exact hw
    · have hall := all_listed2 (n := n) (S := S) (a0 := a) hF (by rw [hs, hsize]) hr
      obtain rfl : k = l.length := by
        rcases Nat.lt_or_ge k l.length with h1 | h1
        · have := hall k (by simpa using h1)
          rw [hL k] at this
          simp at this
        · omega
      rw [Nat.sub_self] at hw
      exact hw
  · unfold unlisted
    exact Nat.le_trans (List.length_filter_le _ _) (by simp)
  · left
    have hnone : dn (Array.replicate l.toArray.size false) = noneYet := by
      funext j
      unfold dn noneYet
      by_cases hj : j < l.length <;> simp [hj]
    refine ⟨by simp, by simp, rfl, rfl, fun s _ => rfl, by rw [hnone]; exact hd, ?_, ?_, ?_⟩
    · intro i hi
      by_cases hl : i < l.length <;> simp [hl] at hi
    · intro i k hi
      by_cases hl : i < l.length <;> simp [hl] at hi
    · intro i _
      by_cases hl : i < l.length <;> simp [hl]

end

end

end Go.Proofs.YtcekcihijdipoaaGreat
