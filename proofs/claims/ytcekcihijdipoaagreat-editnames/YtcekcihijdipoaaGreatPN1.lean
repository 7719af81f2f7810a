/- A pack of texts: Ext, Law, Flat, Lay, FixedMath, VecMath, MeshMath, Open, Mix, MeshMath2, TxLay, StMath, ArenaMath. -/
import Derived.WalkKit
import Derived.ProofKit
import Derived.OpenShut
import Derived.BigQuiet
import Derived.WalkSpells
import Derived.Deep.RegionWith
import Derived.LoopN
import Derived.Test.YtcekcihijdipoaaGreatRows
import Derived.Lib.SmallJoins
import Derived.Deep.AppendLies
import Derived.RowKit
import Derived.Deep.Slices
namespace Go.Proofs.YtcekcihijdipoaaGreat

section


open Go.RowKit

structure More where
  blocks : Array Obj
  draws : Nat

def blocks (x : List More) : Array Obj := match x with | m :: _ => m.blocks | [] => #[]

def draws (x : List More) : Nat := match x with | m :: _ => m.draws | [] => 0

def plus (w : World) (x : List More) : World := { w with heap := w.heap ++ blocks x, drawn := draws x }

theorem plus_size (w : World) (x : List More) : (plus w x).heap.size = w.heap.size + (blocks x).size := by
  simp [plus]

theorem plus_block (w : World) (x : List More) (n : Nat) (h : n < w.heap.size) : (plus w x).heap[n]? = w.heap[n]? := by
  simp [plus, Array.getElem?_append, h]

theorem plus_cell (w : World) (x : List More) (n i : Nat) (h : n < w.heap.size) : (plus w x).cell? ⟨n, i, none⟩ = w.cell? ⟨n, i, none⟩ :=
  World.cell?_of_block (w := w) (plus_block w x n h)

theorem plus_frozen (w : World) (x : List More) (n i : Nat) (h : n < w.heap.size) : (plus w x).frozen? ⟨n, i, none⟩ = w.frozen? ⟨n, i, none⟩ :=
  World.frozen?_of_block (w := w) (plus_block w x n h)

theorem plus_drew (w : World) (x : List More) : (plus w x).drew = plus w [⟨blocks x, draws x + 1⟩] := rfl

theorem plus_below (w : World) (x : List More) : Below w.heap.size w (plus w x) :=
  ⟨rfl, rfl, rfl, by simp [plus], fun n h => plus_block w x n h⟩

theorem below_plus {w w' : World} (h : Below w.heap.size w w') : ∃ x, w' = plus w x := by
  obtain ⟨ho, ht, hp, hs, hb⟩ := h
  refine ⟨[⟨w'.heap.extract w.heap.size w'.heap.size, w'.drawn⟩], ?_⟩
  have e : w'.heap = w.heap ++ w'.heap.extract w.heap.size w'.heap.size := by
    apply Array.ext_getElem?
    intro i
    by_cases hi : i < w.heap.size
    · rw [hb i hi, Array.getElem?_append, if_pos hi]
    · rw [Array.getElem?_append, if_neg hi, Array.getElem?_extract]
      by_cases h2 : i < w'.heap.size
      · rw [if_pos (by omega)]
        congr 1
        omega
      · rw [if_neg (by omega)]
        simp
        omega
  cases w'
  simp only [plus, blocks, draws] at *
  subst ho ht hp
  rw [← e]

theorem plus_setCell (w : World) (x : List More) (n i : Nat) (v : Value) (h : n < w.heap.size) :
    (plus w x).setCell ⟨n, i, none⟩ v = plus (w.setCell ⟨n, i, none⟩ v) x := by
  unfold World.setCell plus
  congr 1
  apply Array.ext_getElem?
  intro k
  simp only [Array.getElem?_modify, Array.getElem?_append, Array.size_modify]
  by_cases hk : n = k
  · subst hk; simp [h]
  · simp [hk]

def farCell (w : World) (x : List More) (n i : Nat) : Option Value := (plus w x).cell? ⟨n, i, none⟩

def farFrozen (w : World) (x : List More) (n i : Nat) : Bool := (plus w x).frozen? ⟨n, i, none⟩

def farSet (w : World) (x : List More) (n i : Nat) (v : Value) : World := (plus w x).setCell ⟨n, i, none⟩ v

theorem cell_plus (w : World) (x : List More) (n i : Nat) : (plus w x).cell? ⟨n, i, none⟩ = if n < w.heap.size then w.cell? ⟨n, i, none⟩ else farCell w x n i := by
  split
  · exact plus_cell w x n i (by assumption)
  · rfl

theorem frozen_plus (w : World) (x : List More) (n i : Nat) : (plus w x).frozen? ⟨n, i, none⟩ = if n < w.heap.size then w.frozen? ⟨n, i, none⟩ else farFrozen w x n i := by
  split
  · exact plus_frozen w x n i (by assumption)
  · rfl

theorem set_plus (w : World) (x : List More) (n i : Nat) (v : Value) : (plus w x).setCell ⟨n, i, none⟩ v = if n < w.heap.size then plus (w.setCell ⟨n, i, none⟩ v) x else farSet w x n i v := by
  split
  · exact plus_setCell w x n i v (by assumption)
  · rfl

theorem cell_none (w : World) (n i : Nat) (h : w.heap.size ≤ n) : w.cell? ⟨n, i, none⟩ = none := by
  simp [World.cell?, Array.getElem?_eq_none h]

theorem cell_alloc (w : World) (c : Array Value) (t : TypeId) (n i : Nat) : (w.alloc (.cells c t)).cell? ⟨n, i, none⟩ = if n = w.heap.size then c[i]? else w.cell? ⟨n, i, none⟩ := by
  split
  · exact World.cell?_alloc_at _ _ _ _ (by assumption)
  · by_cases h : n < w.heap.size
    · exact World.cell?_alloc_past _ _ _ h
    · rw [cell_none _ _ _ (by simp; omega), cell_none _ _ _ (by omega)]

theorem frozen_none (w : World) (n i : Nat) (h : w.heap.size ≤ n) : w.frozen? ⟨n, i, none⟩ = false := by
  simp [World.frozen?, Array.getElem?_eq_none h]

theorem frozen_alloc (w : World) (c : Array Value) (t : TypeId) (n i : Nat) : (w.alloc (.cells c t)).frozen? ⟨n, i, none⟩ = if n = w.heap.size then false else w.frozen? ⟨n, i, none⟩ := by
  split
  · exact World.frozen?_alloc_at _ _ _ _ (by assumption)
  · by_cases h : n < w.heap.size
    · exact World.frozen?_alloc_past _ _ _ h
    · rw [frozen_none _ _ _ (by simp; omega), frozen_none _ _ _ (by omega)]

theorem set_none (w : World) (n i : Nat) (v : Value) (h : w.heap.size ≤ n) : w.setCell ⟨n, i, none⟩ v = w := by
  unfold World.setCell
  congr 1
  apply Array.ext_getElem?
  intro k
  rw [Array.getElem?_modify]
  split
  · rename_i e; subst e; simp [Array.getElem?_eq_none h]
  · rfl

theorem set_alloc (w : World) (c : Array Value) (t : TypeId) (n i : Nat) (v : Value) : (w.alloc (.cells c t)).setCell ⟨n, i, none⟩ v = if n = w.heap.size then w.alloc (.cells (c.setIfInBounds i v) t) else (w.setCell ⟨n, i, none⟩ v).alloc (.cells c t) := by
  split
  · exact World.setCell_alloc_at _ _ _ _ _ (by assumption)
  · by_cases h : n < w.heap.size
    · exact World.setCell_alloc_past _ _ _ _ h
    · rw [set_none _ _ _ _ (by simp; omega), set_none _ _ _ _ (by omega)]

theorem plus_of {P : Program} {f : FuncId} {args : Array Value} {w : World} {x : List More} {v : Value}
    (h : Calls P f args (plus w x) fun e w' => e = .returned v ∧ Below (plus w x).heap.size (plus w x) w') : Calls P f args (plus w x) fun e w' => e = .returned v ∧ ∃ y, w' = plus w y :=
  h.mono fun _ _ ⟨he, hb⟩ => ⟨he, below_plus ((plus_below w x).trans (hb.mono (by rw [plus_size]; omega)))⟩

theorem plus_post {P : Program} {f : FuncId} {args : Array Value} {w : World} {v : Value}
    (h : Calls P f args w fun e w' => e = .returned v ∧ Below w.heap.size w w') : Calls P f args w fun e w' => e = .returned v ∧ ∃ y, w' = plus w y :=
  h.mono fun _ _ ⟨he, hb⟩ => ⟨he, below_plus hb⟩

theorem region_plus {P : Program} {id : Nat} {Q : Exit → Act → World → Prop} {a : Act} {w : World} {l : List Oper} (hm : P.follows .mixedOrders = true) (hB : Region.lexB .any l.toArray = true)
    (h : wpQuiet P l.toArray (fun w' => ∃ x, w' = plus w x) (fun a' => ∀ w', (∃ x, w' = plus w x) → Q .normal a' w') l a) : (Code.region id l.toArray true).wp P Q a w :=
  wp_region_quiet (C := fun w' => ∃ x, w' = plus w x) hm hB ⟨[⟨#[], w.drawn + 1⟩], by simp [plus, blocks, draws]⟩ (by simpa using h)

theorem ba {a w : World} {o : Obj} (h : Below a.heap.size a w) : Below a.heap.size a (w.alloc o) := h.alloc h.size o

theorem bp {a w : World} {x : List More} (h : Below a.heap.size a w) : Below a.heap.size a (plus w x) := h.trans ((plus_below w x).mono h.size)

theorem bd {a w : World} (h : Below a.heap.size a w) : Below a.heap.size a w.drew := h.drew

theorem bn {a w : World} {n : Nat} (h : Below a.heap.size a w) : Below a.heap.size a (w.drewN n) := ⟨h.os, h.tape, h.output, h.size, h.block⟩
theorem skB {n : Nat} {w w' : World} (h : Below n w w' := by with_reducible repeat (first | exact Below.refl _ _ | apply ba | apply bp | apply bd | apply bn)) : Below n w w' := h

theorem dn_set (w : World) (n : Nat) (a : Addr) (v : Value) : (w.drewN n).setCell a v = (w.setCell a v).drewN n := rfl

theorem dn_alloc (w : World) (n : Nat) (o : Obj) : (w.drewN n).alloc o = (w.alloc o).drewN n := rfl

theorem dn_plus (w : World) (n : Nat) (x : List More) : (plus w x).drewN n = plus w [⟨blocks x, draws x + n⟩] := rfl

theorem plus_dn (w : World) (n : Nat) (x : List More) : plus (w.drewN n) x = plus w x := rfl

theorem ex_refl (w : World) : ∃ x, w = plus w x := ⟨[⟨#[], w.drawn⟩], by simp [plus, blocks, draws]⟩

theorem ex_plus {W T : World} {y : List More} (h : ∃ x, W = plus T x) : ∃ x, plus W y = plus T x := by
  obtain ⟨x, rfl⟩ := h
  exact ⟨[⟨blocks x ++ blocks y, draws y⟩], by simp [plus, blocks, draws]⟩

theorem ex_alloc {W T : World} {o : Obj} (h : ∃ x, W = plus T x) : ∃ x, W.alloc o = plus T x := by
  obtain ⟨x, rfl⟩ := h
  exact ⟨[⟨blocks x ++ #[o], draws x⟩], by simp [plus, blocks, draws, World.alloc]⟩

theorem ex_drew {W T : World} (h : ∃ x, W = plus T x) : ∃ x, W.drew = plus T x := by
  obtain ⟨x, rfl⟩ := h
  exact ⟨_, plus_drew T x⟩

theorem ex_drewN {W T : World} {n : Nat} (h : ∃ x, W = plus T x) : ∃ x, W.drewN n = plus T x := by
  obtain ⟨x, rfl⟩ := h
  exact ⟨_, dn_plus T n x⟩

theorem soak {P : Program} {c : Code} {Q : Exit → Act → World → Prop} {n : Nat} {a : Act} {W : World} (T : World) (h : ∃ x, W = plus T x) (k : ∀ x, Code.rounds P c Q n a (plus T x)) : Code.rounds P c Q n a W := by
  obtain ⟨x, rfl⟩ := h
  exact k x

end

section


open Go.RowKit Go.ChangeShapes Go.WideShapes Go.ChangeAt

theorem own : ownKnob Tryz.prog.godebug = none := by kernel_rfl

theorem laidOut : laidOutB Tryz.prog = true := by kernel_rfl

section

variable {H : Type} {enc : TypeId × Value → H} {P : Program}

theorem all_below (hl : laidOutB P = true) {W W' : World} (hb : Below W.heap.size W W') :
    ∀ (ts : List TypeId) (vs : List Value) (ds : List (DataW H)) (ps : List MemPlace), (ts.all fun t => P.readableRec t && decide (t < P.types.size)) = true →
      DataW.TrodAll enc P W 0 (fun _ => true) true ts vs ds ps → DataW.TrodAll enc P W' 0 (fun b => decide (b < W.heap.size)) true ts vs ds ps
  | [], vs, ds, ps, _, h => by
    obtain ⟨rfl, rfl, rfl⟩ := trodAll_nil h
    exact trodAll_mk0
  | t :: ts, vs, ds, ps, hr, h => by
    simp only [List.all_cons, Bool.and_eq_true, decide_eq_true_eq] at hr
    obtain ⟨v, vs', d, ds', p, q, rfl, rfl, rfl, h0, h1⟩ := trodAll_cons h
    have hlt : ∀ x ∈ p, x.block < W.heap.size := by obtain ⟨m, hm⟩ := h0; exact DataW.trod_lt m _ _ _ hm
    exact trodAll_cons_mk (Below.trod hl hr.1.1 hr.1.2 h0 hb hlt) (all_below hl hb ts vs' ds' q (by simpa using hr.2) h1)

theorem all_length {W : World} : ∀ (ts : List TypeId) (vs : List Value) (ds : List (DataW H)) (ps : List MemPlace),
    DataW.TrodAll enc P W 0 (fun _ => true) true ts vs ds ps → ds.length = ts.length
  | [], vs, ds, ps, h => by
    obtain ⟨rfl, rfl, rfl⟩ := trodAll_nil h
    rfl
  | t :: ts, vs, ds, ps, h => by
    obtain ⟨v, vs', d, ds', p, q, rfl, rfl, rfl, h0, h1⟩ := trodAll_cons h
    simp [all_length ts vs' ds' q h1]

theorem law_post (hl : laidOutB P = true) {fn : Func} {s : ChangeSpec} {T : TypeId} {W W' : World} {args : Array Value} {ds gs : List (DataW H)} {before : List MemPlace}
    (hT : P.underlying T = some .bool) (hv : s.vars = []) (hr : fn.resultTypes = #[T]) (hp : (fn.params.toList.all fun t => P.readableRec t && decide (t < P.types.size)) = true)
    (hfn : ∀ ds : List (DataW H), ds.length = fn.params.toList.length → s.fn H (ds ++ []) = { results := [.lit (.bool true)], args := ds, vars := [] })
    (hW : DataW.Whole enc P fn.params.toList s.vars false W args.toList ds gs before) (hb : Below W.heap.size W W') :
    s.post enc P fn false true false false W args (.bool true) W' := by
  have hW' := hW
  obtain ⟨p, q, hA, hV, rfl, _, _⟩ := hW
  rw [hv] at hV
  obtain ⟨rfl, rfl⟩ := trodVars_none hV
  have hf := hfn ds (all_length _ _ _ _ hA)
  refine ⟨ds, [], _, [], p, [], hW', ?_, ?_, ?_, hb.frame _, fun h => by cases h⟩
  · rw [hf, hr]
    exact trodAll_mk1 (shut_bool hT _)
  · rw [hf]
    exact all_below hl hb _ _ _ _ hp hA
  · rw [hf, hv]
    rfl

end

end

section


open Go.RowKit Go.ChangeShapes Go.WideShapes Go.ChangeAt

def flatB (P : Program) : Nat → TypeId → Bool
  | 0, _ => false
  | k + 1, t => match P.underlying t with
    | some (.int .i64) => true
    | some (.struct fs) => fs.toList.all (fun f => flatB P k f.type) && (List.range (P.cellsOf t)).all fun j => fs.toList.any fun f => decide (f.offset ≤ j) && decide (j < f.offset + P.cellsOf f.type)
    | some (.array n e) => flatB P k e && (List.range (P.cellsOf t)).all fun j => (List.range n).any fun i => decide (i * P.cellsOf e ≤ j) && decide (j < i * P.cellsOf e + P.cellsOf e)
    | _ => false

def aggB (P : Program) (t : TypeId) : Bool := match P.underlying t with | some (.struct _) | some (.array _ _) => true | _ => false

section

variable {H : Type} {enc : TypeId × Value → H} {P : Program} {W : World} {base : Nat} {spare : Nat → Bool} {held : Bool}

end

end

section


open Go.RowKit

section

variable {α : Type} {f : α → List Value} {P : Program} {w w' T T' : World} {ao ao2 : Option Addr} {n m cap c : Nat} {l l2 : List α} {e : TypeId}

structure Lay (f : α → List Value) (w : World) (ao : Option Addr) (n : Nat) (l : List α) : Prop where
  len : l.length = n
  at0 : n = 0 ∨ ∃ g off, ao = some ⟨g, off, none⟩ ∧ g < w.heap.size ∧ ∀ j u, (l.flatMap f)[j]? = some u → w.cell? ⟨g, off + j, none⟩ = some u

theorem Lay.plus (h : Lay f w ao n l) (x : List More) : Lay f (plus w x) ao n l :=
  ⟨h.len, h.at0.imp id fun ⟨g, off, e, hg, hc⟩ => ⟨g, off, e, by rw [plus_size]; omega, fun j u hu => by rw [plus_cell _ _ _ _ hg]; exact hc j u hu⟩⟩

theorem Lay.ex (h : Lay f w ao n l) (hw : ∃ x, w' = Go.Proofs.YtcekcihijdipoaaGreat.plus w x) : Lay f w' ao n l := by
  obtain ⟨x, rfl⟩ := hw
  exact h.plus x

theorem Lay.nil : Lay f w ao 0 [] := ⟨rfl, .inl rfl⟩

theorem Lay.zero (h : Lay f w ao 0 l) : l = [] := List.eq_nil_of_length_eq_zero h.len

theorem Lay.some (h : Lay f w ao n l) (hn : 0 < n) : ∃ g off, ao = some ⟨g, off, none⟩ ∧ g < w.heap.size ∧ ∀ j u, (l.flatMap f)[j]? = some u → w.cell? ⟨g, off + j, none⟩ = some u :=
  h.at0.resolve_left (by omega)

theorem flat_length (hc : ∀ x, (f x).length = c) : ∀ l : List α, (l.flatMap f).length = l.length * c
  | [] => by simp
  | a :: l => by rw [List.flatMap_cons, List.length_append, hc, flat_length hc l, List.length_cons, Nat.succ_mul]; omega

theorem flat_at (hc : ∀ x, (f x).length = c) : ∀ (l : List α) (k : Nat) (hk : k < l.length) (j : Nat), j < c → (l.flatMap f)[k * c + j]? = (f l[k])[j]?
  | [], k, hk, _, _ => by simp at hk
  | a :: l, 0, _, j, hj => by rw [List.flatMap_cons, Nat.zero_mul, Nat.zero_add, List.getElem?_append_left (by rw [hc]; exact hj)]; rfl
  | a :: l, k + 1, hk, j, hj => by
    rw [List.flatMap_cons, List.getElem?_append_right (by rw [hc, Nat.succ_mul]; omega), hc, show (k + 1) * c + j - c = k * c + j by rw [Nat.succ_mul]; omega]
    exact flat_at hc l k (by simpa using hk) j hj

theorem flat_one (h1 : ∀ x, ∀ u ∈ f x, u.oneCell' = true) (l : List α) : ∀ u ∈ l.flatMap f, u.oneCell' = true := by
  intro u hu
  obtain ⟨x, _, hx⟩ := List.mem_flatMap.1 hu
  exact h1 x u hx

def nth (d : α) (l : List α) (k : Nat) : α := l.getD k d

theorem nth_eq {d : α} {l : List α} {k : Nat} (hk : k < l.length) : nth d l k = l[k] := by simp [nth, hk]

theorem nth_append_left {d : α} {l l2 : List α} {k : Nat} (hk : k < l.length) : nth d (l ++ l2) k = nth d l k := by
  simp [nth, List.getElem?_append, hk]

theorem nth_append_right {d : α} {l l2 : List α} {k : Nat} (hk : l.length ≤ k) : nth d (l ++ l2) k = nth d l2 (k - l.length) := by
  have : ¬ k < l.length := by omega
  simp [nth, List.getElem?_append, this]

theorem nth_mem {d : α} {l : List α} {k : Nat} (hk : k < l.length) : nth d l k ∈ l := by rw [nth_eq hk]; exact List.getElem_mem _

theorem take_nth {d : α} {l : List α} {k : Nat} (hk : k < l.length) : l.take (k + 1) = l.take k ++ [nth d l k] := by
  rw [List.take_add_one, nth_eq hk]; simp [hk]

theorem ext_nth {d : α} {l l2 : List α} (h : l.length = l2.length) (hk : ∀ k, k < l.length → nth d l k = nth d l2 k) : l = l2 := by
  apply List.ext_getElem h
  intro k h1 h2
  have := hk k h1
  rwa [nth_eq h1, nth_eq h2] at this

theorem cell_nth {d : α} {g off : Nat} (hl : l.length = n) (hc : ∀ x, (f x).length = c) (h : ∀ j u, (l.flatMap f)[j]? = some u → w.cell? ⟨g, off + j, none⟩ = some u)
    (k j : Nat) (u : Value) (hk : k < n) (hj : j < c) (hu : (f (nth d l k))[j]? = some u) : w.cell? ⟨g, off + (k * c + j), none⟩ = some u := by
  subst hl
  refine h _ u ?_
  rw [flat_at hc l k hk j hj, ← nth_eq hk]
  exact hu

def Own (e : TypeId) (c : Nat) (f : α → List Value) (T w : World) (ao : Option Addr) (n cap : Nat) (l : List α) : Prop :=
  l.length = n ∧ w.ownsRow T.heap.size e c (.slice ao n cap) n (l.flatMap f)

theorem own_nil : Own e c f T w none 0 0 [] := ⟨rfl, World.ownsRow_nil w _ _ _⟩

theorem Own.plus (h : Own e c f T w ao n cap l) (x : List More) : Own e c f T (plus w x) ao n cap l :=
  ⟨h.1, World.ownsRow.kept h.2 (row := none) ⟨rfl, rfl, rfl, by simp [Go.Proofs.YtcekcihijdipoaaGreat.plus], fun k hk _ => plus_block w x k hk⟩ (by cases h : Value.ownBlock (.slice ao n cap) <;> simp)⟩

theorem Own.ex (h : Own e c f T w ao n cap l) (hw : ∃ x, w' = Go.Proofs.YtcekcihijdipoaaGreat.plus w x) : Own e c f T w' ao n cap l := by
  obtain ⟨x, rfl⟩ := hw
  exact h.plus x

theorem Own.lay (h : Own e c f T w ao n cap l) : Lay f w ao n l := by
  refine ⟨h.1, ?_⟩
  by_cases hn : n = 0
  · exact .inl hn
  right
  obtain ⟨g, cap', e1, _, hlt⟩ := World.ownsRow.form h.2 (by omega)
  simp only [Value.slice.injEq, true_and] at e1
  obtain ⟨rfl, rfl⟩ := e1
  refine ⟨g, 0, rfl, hlt, fun j u hu => ?_⟩
  have := World.ownsRow.cells h.2 (g := g) rfl j u hu
  rw [Nat.zero_add]
  have hadd : (⟨g, 0, none⟩ : Addr).add j = ⟨g, j, none⟩ := by unfold Addr.add; split <;> simp_all
  rwa [hadd] at this

theorem Own.base (h : Own e c f T w ao n cap l) (hT : T'.heap.size ≤ T.heap.size) : Own e c f T' w ao n cap l := by
  refine ⟨h.1, h.2.1, h.2.2.imp id ?_⟩
  rintro ⟨g, cp, cur, h1, h2, h3⟩
  exact ⟨g, cp, cur, h1, by omega, h3⟩

structure Kin (P : Program) (t e : TypeId) (c b : Nat) : Prop where
  und : P.underlying t = Option.some (.slice e)
  info : ∃ i z, P.info? e = Option.some i ∧ i.zero = Option.some z ∧ i.size = c ∧ i.bytes = b ∧ z.cells.size = c
  pos : 0 < c

theorem run_append_zero {t ty : TypeId} {b : Nat} (hk : Kin P t e c b) (hn : n ≤ cap) (c2 : Nat) :
    (Builtin.append_ #[t, t] ty #[.slice ao n cap, .slice ao2 0 c2]).run P w = .ok (.slice ao n cap) w := by
  obtain ⟨i, z, hi, _⟩ := hk.info
  cases ao <;> cases ao2 <;> simp [Builtin.append_, run_underlying hk.und, sizeOf, typeInfo, hi, Builtin.lenOf, Builtin.firstCells, storeCells, loadCells, loadCellsFrom, hn]

theorem run_append_lay {t ty : TypeId} {b : Nat} (hk : Kin P t e c b) (hc : ∀ x, (f x).length = c) (h1 : ∀ x, ∀ u ∈ f x, u.oneCell' = true)
    (hT : ∃ y, w = plus T y) (hown : Own e c f T w ao n cap l) (c2 : Nat) (hl : Lay f w ao2 m l2) (hm : n + m ≤ maxLen) (hb : (n + m) * b ≤ 140737488355328) :
    ∃ ao' cap' y, (Builtin.append_ #[t, t] ty #[.slice ao n cap, .slice ao2 m c2]).run P w = .ok (.slice ao' (n + m) cap') (plus T y) ∧ Own e c f T (plus T y) ao' (n + m) cap' (l ++ l2) := by
  by_cases h0 : m = 0
  · subst h0
    have hnc : n ≤ cap := by
      rcases hown.2.2 with ⟨e, _⟩ | ⟨g, cp, cur, e, _, _, hcp, _⟩
      · simp only [Value.slice.injEq] at e; omega
      · simp only [Value.slice.injEq] at e; omega
    obtain ⟨y, rfl⟩ := hT
    refine ⟨ao, cap, y, run_append_zero hk hnc c2, ?_⟩
    rw [hl.zero, List.append_nil, Nat.add_zero]
    exact hown
  obtain ⟨g, off, rfl, hg, hcell⟩ := hl.some (by omega)
  obtain ⟨i, z, hi, hz, hz1, hz2, hz3⟩ := hk.info
  obtain ⟨y, rfl⟩ := hT
  obtain ⟨v', w1, hr, ho, hgr, _, _⟩ := run_append_own_at (P := P) (plus T y) T.heap.size t ty e i z c b hk.und hi hz hz1 hz2 hz3 hk.pos (.slice ao n cap) n (l.flatMap f) hown.2 ⟨g, off, none⟩ m c2 (l2.flatMap f)
    (by rw [flat_length hc, hl.len]) (fun j u hu => by have hadd : (⟨g, off, none⟩ : Addr).add j = ⟨g, off + j, none⟩ := (by unfold Addr.add; split <;> simp_all); rw [hadd]; exact hcell j u hu) (flat_one h1 l2) hm hb (by rw [plus_size]; omega)
  have hB : Below T.heap.size T w1 := (plus_below T y).grown hgr (by rw [plus_size]; omega) (fun k hk => (World.ownsRow.lt hown.2 k hk).1)
  obtain ⟨y', rfl⟩ := below_plus hB
  obtain ⟨g', cap', rfl, _, _⟩ := World.ownsRow.form ho (by omega)
  exact ⟨_, cap', y', hr, by rw [List.length_append, hown.1, hl.len], by rw [List.flatMap_append]; exact ho⟩

end

section

variable {α : Type} {f : α → List Value} {P : Program} {w T : World} {ao ao2 : Option Addr} {n m cap c c2 : Nat} {l l2 : List α} {e t : TypeId} {b : Nat} {o : Oper} {a : Act} {K : Act → World → Prop} {Q : Exit → Act → World → Prop}

theorem wp_append_lay (s x : Operand) (ho : o.op = .call { callee := .builtin .append, args := #[s, x], argTypes := #[t, t] }) (hk : Kin P t e c b) (hc : ∀ x, (f x).length = c) (h1 : ∀ x, ∀ u ∈ f x, u.oneCell' = true)
    (hs : a.eval s = .slice ao n cap) (hT : ∃ y, w = plus T y) (hown : Own e c f T w ao n cap l) (hx : a.eval x = .slice ao2 m c2) (hl : Lay f w ao2 m l2) (hm : n + m ≤ 100000) (hb : b ≤ 100000)
    (h : ∀ ao' cap' y, Own e c f T (plus T y) ao' (n + m) cap' (l ++ l2) → K (a.put o.dst (.slice ao' (n + m) cap')) (plus T y)) : o.wp P a w K Q := by
  obtain ⟨ao', cap', y, hr, h2⟩ := run_append_lay (ty := o.type) hk hc h1 hT hown c2 hl (by unfold maxLen; omega) (Nat.le_trans (Nat.mul_le_mul hm hb) (by decide))
  unfold Oper.wp execOp
  simp only [ho, resolve, invoke, builtin, Sem.run_bind, Sem.run_pure, Result.andThen_ok, List.map_toArray, List.map_cons, List.map_nil, hs, hx, hr]
  exact h ao' cap' y h2

theorem wpList_append_lay {ops : Array Oper} {rest : List Oper} (hgd : o.guard = none) (s x : Operand) (ho : o.op = .call { callee := .builtin .append, args := #[s, x], argTypes := #[t, t] }) (hk : Kin P t e c b) (hc : ∀ x, (f x).length = c) (h1 : ∀ x, ∀ u ∈ f x, u.oneCell' = true)
    (hs : a.eval s = .slice ao n cap) (hT : ∃ y, w = plus T y) (hown : Own e c f T w ao n cap l) (hx : a.eval x = .slice ao2 m c2) (hl : Lay f w ao2 m l2) (hm : n + m ≤ 100000) (hb : b ≤ 100000)
    (h : ∀ ao' cap' y, Own e c f T (plus T y) ao' (n + m) cap' (l ++ l2) → wpList P ops Q rest (a.put o.dst (.slice ao' (n + m) cap')) (plus T y)) : wpList P ops Q (o :: rest) a w :=
  wpList_plain hgd fun _ hK => wp_append_lay s x ho hk hc h1 hs hT hown hx hl hm hb fun ao' cap' y h2 => hK _ _ (h ao' cap' y h2)

theorem step_append_lay {ops : Array Oper} {E : Prop} (hgd : o.guard = none) (s x : Operand) (ho : o.op = .call { callee := .builtin .append, args := #[s, x], argTypes := #[t, t] }) (hk : Kin P t e c b) (hc : ∀ x, (f x).length = c) (h1 : ∀ x, ∀ u ∈ f x, u.oneCell' = true)
    (hs : a.eval s = .slice ao n cap) (hT : ∃ y, w = plus T y) (hown : Own e c f T w ao n cap l) (hx : a.eval x = .slice ao2 m c2) (hl : Lay f w ao2 m l2) (hm : n + m ≤ 100000) (hb : b ≤ 100000)
    (h : ∀ ao' cap' y, Own e c f T (plus T y) ao' (n + m) cap' (l ++ l2) → K (a.put o.dst (.slice ao' (n + m) cap')) (plus T y)) :
    if Region.wanted o (yielded ops a.tmps) = true then Oper.wp P o a w K Q else E := by
  have hw : Region.wanted o (yielded ops a.tmps) = true := by simp [Region.wanted, hgd]
  rw [if_pos hw]
  exact wp_append_lay s x ho hk hc h1 hs hT hown hx hl hm hb h

end

end

section


theorem tmod_lt {a b : Int} (hb : 1 ≤ b) : a.tmod b < 0 → a.tdiv b - 1 = a / b := by
  intro h
  rw [Int.tmod_eq_emod] at h
  rw [Int.tdiv_eq_ediv]
  have := Int.emod_nonneg a (show b ≠ 0 by omega)
  have h3 : b.natAbs = b := by omega
  split at h <;> rename_i h2
  · omega
  · rw [if_neg h2, show b.sign = 1 from Int.sign_eq_one_of_pos (by omega)]
    omega

theorem tmod_ge {a b : Int} (hb : 1 ≤ b) : 0 ≤ a.tmod b → a.tdiv b = a / b := by
  intro h
  rw [Int.tmod_eq_emod] at h
  rw [Int.tdiv_eq_ediv]
  have h3 : b.natAbs = b := by omega
  have h4 := Int.emod_lt_of_pos a (show 0 < b by omega)
  split at h <;> rename_i h2
  · rw [if_pos h2]; omega
  · omega

def up (a b : Int) : Int := -((-a) / b)

theorem up_pos {a b : Int} (hb : 1 ≤ b) : 0 < a.tmod b → a.tdiv b + 1 = up a b := by
  intro h
  have h1 := @tmod_lt (-a) b hb (by rw [Int.neg_tmod]; omega)
  rw [Int.neg_tdiv] at h1
  unfold up
  omega

theorem up_neg {a b : Int} (hb : 1 ≤ b) : a.tmod b ≤ 0 → a.tdiv b = up a b := by
  intro h
  have h1 := @tmod_ge (-a) b hb (by rw [Int.neg_tmod]; omega)
  rw [Int.neg_tdiv] at h1
  unfold up
  omega

theorem div_bd {a b : Int} (hb : 1 ≤ b) (l h : Int) (hl : l ≤ a) (hl0 : l ≤ 0) (hh : a ≤ h) (hh0 : 0 ≤ h) : l ≤ a / b ∧ a / b ≤ h := by
  constructor
  · refine (Int.le_ediv_iff_mul_le (by omega)).2 ?_
    have : l * b ≤ l * 1 := Int.mul_le_mul_of_nonpos_left hl0 hb
    omega
  · refine Int.le_of_lt_add_one ((Int.ediv_lt_iff_lt_mul (by omega)).2 ?_)
    have : (h + 1) * 1 ≤ (h + 1) * b := Int.mul_le_mul_of_nonneg_left hb (by omega)
    omega

theorem tdiv_bd {a b : Int} (hb : 1 ≤ b) (ha : -9223372036854775808 ≤ a) (ha2 : a ≤ 9223372036854775807) :
    (a.tmod b < 0 → -9223372036854775808 ≤ a.tdiv b - 1 ∧ a.tdiv b - 1 ≤ 9223372036854775807) ∧ (0 < a.tmod b → -9223372036854775808 ≤ a.tdiv b + 1 ∧ a.tdiv b + 1 ≤ 9223372036854775807) := by
  constructor
  · intro h
    rw [tmod_lt hb h]
    have := div_bd hb _ _ ha (by omega) ha2 (by omega)
    omega
  · intro h
    rw [up_pos hb h]
    unfold up
    by_cases h1 : b = 1
    · subst h1; simp at h
    by_cases h2 : a ≤ 0
    · have := div_bd (a := -a) hb 0 9223372036854775808 (by omega) (by omega) (by omega) (by omega)
      omega
    have h3 : -4611686018427387904 ≤ (-a) / b := by
      refine (Int.le_ediv_iff_mul_le (by omega)).2 ?_
      have : (-4611686018427387904 : Int) * b ≤ -4611686018427387904 * 2 := Int.mul_le_mul_of_nonpos_left (by omega) (by omega)
      omega
    have h4 := div_bd (a := -a) hb (-9223372036854775807) 0 (by omega) (by omega) (by omega) (by omega)
    omega

def chk (l h : Int) : Int := if -1099511627776 ≤ l ∧ h ≤ 1099511627776 ∧ l ≤ h then 0 else 8

def rng (l h : Int) : Int × Int × Int := if chk l h = 0 then (l, h, 0) else (0, 0, 20)

def add (a b c d : Int) : Int × Int × Int := if chk a b = 0 then if chk c d = 0 then rng (a + c) (b + d) else (0, 0, 8) else (0, 0, 8)

def scale (a b k : Int) : Int × Int × Int := if chk a b = 0 then if -1048576 ≤ k ∧ k ≤ 1048576 then rng (min (k * a) (k * b)) (max (k * a) (k * b)) else (0, 0, 2) else (0, 0, 8)

def quo (a b k : Int) : Int × Int × Int := if chk a b = 0 then if 1 ≤ k ∧ k ≤ 1099511627776 then (a / k, b / k, 0) else (0, 0, 2) else (0, 0, 8)

def join (a b c d : Int) : Int × Int × Int := if chk a b = 0 then if chk c d = 0 then (min a c, max b d, 0) else (0, 0, 8) else (0, 0, 8)

def mayB (l h : Int) : Bool := chk l h == 0

def inB (l h n : Int) : Bool := decide (l ≤ n ∧ n ≤ h)

end

section


structure V3 where
  x : Int
  y : Int
  z : Int

structure M9 where
  a : V3
  b : V3
  c : V3

structure Mt where
  m : M9
  t : V3

def within (n l : Int) : Bool := decide (-l ≤ n ∧ n ≤ l)

def all3 (v : V3) (l : Int) : Bool := within v.x l && within v.y l && within v.z l

def all9 (m : M9) (l : Int) : Bool := all3 m.a l && all3 m.b l && all3 m.c l

theorem within_mk {n l : Int} (h1 : -l ≤ n) (h2 : n ≤ l) : within n l = true := by simp [within, h1, h2]

theorem within_low {n l : Int} (h1 : n < -l) : within n l = false := by simp [within]; omega

theorem within_high {n l : Int} (h1 : l < n) : within n l = false := by simp [within]; omega

theorem within_or (n l : Int) : (-l ≤ n ∧ n ≤ l ∧ within n l = true) ∨ (n < -l ∧ within n l = false) ∨ (-l ≤ n ∧ l < n ∧ within n l = false) := by
  by_cases h1 : -l ≤ n
  · by_cases h2 : n ≤ l
    · exact .inl ⟨h1, h2, within_mk h1 h2⟩
    · exact .inr (.inr ⟨h1, by omega, within_high (by omega)⟩)
  · exact .inr (.inl ⟨by omega, within_low (by omega)⟩)

def dot (r v : V3) : Int := r.x * v.x + r.y * v.y + r.z * v.z

def rowBy (r v : V3) : Int := dot r v / 256

def turned (m : M9) (v : V3) : V3 := ⟨rowBy m.a v, rowBy m.b v, rowBy m.c v⟩

def vplus (a b : V3) : V3 := ⟨a.x + b.x, a.y + b.y, a.z + b.z⟩

def moved (m : Mt) (v : V3) : V3 := vplus (turned m.m v) m.t

def flipped (m : M9) : M9 := ⟨⟨m.a.x, m.b.x, m.c.x⟩, ⟨m.a.y, m.b.y, m.c.y⟩, ⟨m.a.z, m.b.z, m.c.z⟩⟩

def rowByAll (r : V3) (m : M9) : V3 := ⟨rowBy r m.a, rowBy r m.b, rowBy r m.c⟩

def product (a b : M9) : M9 := ⟨rowByAll a.a (flipped b), rowByAll a.b (flipped b), rowByAll a.c (flipped b)⟩

def mayM (m : Mt) : Bool := all9 m.m 1024 && all3 m.t 4096

def chkV (v : V3) : Int := if all3 v 4096 = true then 0 else 20

def chkM (m : Mt) : Int := if mayM m = true then 0 else 20

def unitM : Mt := ⟨⟨⟨256, 0, 0⟩, ⟨0, 256, 0⟩, ⟨0, 0, 256⟩⟩, ⟨0, 0, 0⟩⟩

def zeroV : V3 := ⟨0, 0, 0⟩

def zeroM : Mt := ⟨⟨zeroV, zeroV, zeroV⟩, zeroV⟩

def image (m : Mt) (v : V3) : V3 × Int :=
  if mayM m = true then if all3 v 4096 = true then if all3 (moved m v) 4096 = true then (moved m v, 0) else (zeroV, 20) else (zeroV, 20) else (zeroV, 20)

def turn (m : M9) (v : V3) : V3 × Int :=
  if all9 m 1024 = true then if all3 v 32768 = true then (turned m v, 0) else (zeroV, 2) else (zeroV, 2)

def mulM (a b : Mt) : Mt := ⟨product a.m b.m, moved a b.t⟩

def mul (a b : Mt) : Mt × Int :=
  if mayM a = true then if mayM b = true then if mayM (mulM a b) = true then (mulM a b, 0) else (zeroM, 20) else (zeroM, 20) else (zeroM, 20)

end

section


open Go.RowKit

def fI (n : Int) : List Value := [.int .i64 n]

def fV (v : V3) : List Value := [.int .i64 v.x, .int .i64 v.y, .int .i64 v.z]

def f2 (p : Int × Int) : List Value := [.int .i64 p.1, .int .i64 p.2]

theorem fI_c : ∀ x, (fI x).length = 1 := fun _ => rfl

theorem fV_c : ∀ x, (fV x).length = 3 := fun _ => rfl

theorem f2_c : ∀ x, (f2 x).length = 2 := fun _ => rfl

theorem fI_1 : ∀ x, ∀ u ∈ fI x, u.oneCell' = true := by intro x u hu; simp only [fI, List.mem_cons, List.not_mem_nil, or_false] at hu; subst hu; rfl

theorem fV_1 : ∀ x, ∀ u ∈ fV x, u.oneCell' = true := by intro x u hu; simp only [fV, List.mem_cons, List.not_mem_nil, or_false] at hu; rcases hu with rfl | rfl | rfl <;> rfl

theorem f2_1 : ∀ x, ∀ u ∈ f2 x, u.oneCell' = true := by intro x u hu; simp only [f2, List.mem_cons, List.not_mem_nil, or_false] at hu; rcases hu with rfl | rfl <;> rfl

section

variable {w : World} {g off n k : Nat}

theorem cellI {l : List Int} (hl : l.length = n) (h : ∀ j u, (l.flatMap fI)[j]? = some u → w.cell? ⟨g, off + j, none⟩ = some u) (hk : k < n) : w.cell? ⟨g, off + k, none⟩ = some (.int .i64 (nth 0 l k)) := by
  have := cell_nth (d := 0) hl fI_c h k 0 (.int .i64 (nth 0 l k)) hk (by decide) rfl
  rwa [Nat.mul_one, Nat.add_zero] at this

theorem cellV {l : List V3} (hl : l.length = n) (h : ∀ j u, (l.flatMap fV)[j]? = some u → w.cell? ⟨g, off + j, none⟩ = some u) (hk : k < n) :
    w.cell? ⟨g, off + k * 3, none⟩ = some (.int .i64 (nth zeroV l k).x) ∧ w.cell? ⟨g, off + k * 3 + 1, none⟩ = some (.int .i64 (nth zeroV l k).y) ∧ w.cell? ⟨g, off + k * 3 + 2, none⟩ = some (.int .i64 (nth zeroV l k).z) := by
  have h0 := cell_nth (d := zeroV) hl fV_c h k 0 _ hk (by decide) rfl
  have h1 := cell_nth (d := zeroV) hl fV_c h k 1 _ hk (by decide) rfl
  have h2 := cell_nth (d := zeroV) hl fV_c h k 2 _ hk (by decide) rfl
  rw [Nat.add_zero] at h0
  rw [← Nat.add_assoc] at h1 h2
  exact ⟨h0, h1, h2⟩

theorem cell2 {l : List (Int × Int)} (hl : l.length = n) (h : ∀ j u, (l.flatMap f2)[j]? = some u → w.cell? ⟨g, off + j, none⟩ = some u) (hk : k < n) :
    w.cell? ⟨g, off + k * 2, none⟩ = some (.int .i64 (nth (0, 0) l k).1) ∧ w.cell? ⟨g, off + k * 2 + 1, none⟩ = some (.int .i64 (nth (0, 0) l k).2) := by
  have h0 := cell_nth (d := (0, 0)) hl f2_c h k 0 _ hk (by decide) rfl
  have h1 := cell_nth (d := (0, 0)) hl f2_c h k 1 _ hk (by decide) rfl
  rw [Nat.add_zero] at h0
  rw [← Nat.add_assoc] at h1
  exact ⟨h0, h1⟩

end

structure Pr where
  kind : Int
  ix : List Int

def threeT (ix : List Int) (k : Nat) : V3 := ⟨nth 0 ix (3 * k), nth 0 ix (3 * k + 1), nth 0 ix (3 * k + 2)⟩

def stripT (ix : List Int) (k : Nat) : V3 := if k % 2 = 1 then ⟨nth 0 ix (k + 1), nth 0 ix k, nth 0 ix (k + 2)⟩ else ⟨nth 0 ix k, nth 0 ix (k + 1), nth 0 ix (k + 2)⟩

def fanT (ix : List Int) (k : Nat) : V3 := ⟨nth 0 ix 0, nth 0 ix (k + 1), nth 0 ix (k + 2)⟩

def firsts (g : Nat → V3) (k : Nat) : List V3 := (List.range k).map g

theorem firsts_succ (g : Nat → V3) (k : Nat) : firsts g k ++ [g k] = firsts g (k + 1) := by simp [firsts, List.range_succ]

def prTris (p : Pr) : List V3 := if p.kind = 1 then firsts (stripT p.ix) (p.ix.length - 2) else if p.kind = 2 then firsts (fanT p.ix) (p.ix.length - 2) else firsts (threeT p.ix) (p.ix.length / 3)

def lenOk (kind : Int) (n : Nat) : Bool := if kind = 0 then n % 3 == 0 else n == 0 || decide (3 ≤ n)

def prErr (p : Pr) : Int := if 2 < p.kind then 2 else if 200 < p.ix.length then 4 else if lenOk p.kind p.ix.length = true then 0 else 40

def prList (p : Pr) : List V3 := if prErr p = 0 then prTris p else []

theorem prErr_kind {kind : Int} {ix : List Int} (h : 2 < kind) : prErr ⟨kind, ix⟩ = 2 := if_pos h

theorem prErr_many {kind : Int} {ix : List Int} (h : ¬ 2 < kind) (h2 : 200 < ix.length) : prErr ⟨kind, ix⟩ = 4 := (if_neg h).trans (if_pos h2)

theorem prErr_bad {kind : Int} {ix : List Int} (h : ¬ 2 < kind) (h2 : ¬ 200 < ix.length) (h3 : lenOk kind ix.length = false) : prErr ⟨kind, ix⟩ = 40 := (if_neg h).trans ((if_neg h2).trans (if_neg (by simp [h3])))

theorem prErr_good {kind : Int} {ix : List Int} (h : ¬ 2 < kind) (h2 : ¬ 200 < ix.length) (h3 : lenOk kind ix.length = true) : prErr ⟨kind, ix⟩ = 0 := (if_neg h).trans ((if_neg h2).trans (if_pos h3))

theorem prErr_or (p : Pr) : prErr p = 2 ∨ prErr p = 4 ∨ prErr p = 40 ∨ prErr p = 0 := by
  unfold prErr
  split
  · exact .inl rfl
  · split
    · exact .inr (.inl rfl)
    · split
      · exact .inr (.inr (.inr rfl))
      · exact .inr (.inr (.inl rfl))

theorem prList_bad {p : Pr} (h : prErr p ≠ 0) : prList p = [] := if_neg h

theorem prList_good {p : Pr} (h : prErr p = 0) : prList p = prTris p := if_pos h

theorem prTris_le (p : Pr) : (prTris p).length ≤ p.ix.length := by
  unfold prTris
  split
  · simp [firsts]
  · split
    · simp [firsts]
    · simp [firsts]; omega

def RetL {α : Type} (f : α → List Value) (w : World) (l : List α) (e : Ending) (w' : World) : Prop := ∃ ao m cap, e = .returned (.slice ao m cap) ∧ (∃ y, w' = plus w y) ∧ Lay f w' ao m l

def RetT {α : Type} (f : α → List Value) (w : World) (l : List α) (x : Value) (e : Ending) (w' : World) : Prop := ∃ ao m cap, e = .returned (.tuple #[.slice ao m cap, x]) ∧ (∃ y, w' = plus w y) ∧ Lay f w' ao m l

def RetO {α : Type} (t : TypeId) (c : Nat) (f : α → List Value) (w : World) (l : List α) (e : Ending) (w' : World) : Prop := ∃ ao m cap, e = .returned (.slice ao m cap) ∧ (∃ y, w' = plus w y) ∧ Own t c f w w' ao m cap l

section

variable {α : Type} {eq : α → α → Bool} {d : α} {l l2 : List α} {p : α → Bool}

def sameL (eq : α → α → Bool) (d : α) (l l2 : List α) : Bool := l.length == l2.length && (List.range l.length).all (fun k => eq (nth d l k) (nth d l2 k))

theorem same_len (h : l.length ≠ l2.length) : sameL eq d l l2 = false := by simp [sameL, h]

theorem same_not {k : Nat} (hk : k < l.length) (h : eq (nth d l k) (nth d l2 k) = false) : sameL eq d l l2 = false := by
  cases h2 : sameL eq d l l2
  · rfl
  · simp only [sameL, Bool.and_eq_true, List.all_eq_true, List.mem_range] at h2
    rw [h2.2 k hk] at h
    cases h

theorem same_all (hl : l.length = l2.length) (h : ∀ k, k < l.length → eq (nth d l k) (nth d l2 k) = true) : sameL eq d l l2 = true := by
  simp only [sameL, Bool.and_eq_true, List.all_eq_true, List.mem_range, beq_iff_eq]
  exact ⟨hl, h⟩

theorem same_refl (h : ∀ a, eq a a = true) (l : List α) : sameL eq d l l = true := same_all rfl fun _ _ => h _

theorem all_not {k : Nat} (hk : k < l.length) (h : p (nth d l k) = false) : l.all p = false := by
  cases h2 : l.all p
  · rfl
  · rw [List.all_eq_true.1 h2 _ (nth_mem hk)] at h
    cases h

theorem all_yes (h : ∀ k, k < l.length → p (nth d l k) = true) : l.all p = true := by
  rw [List.all_eq_true]
  intro x hx
  obtain ⟨k, hk, rfl⟩ := List.getElem_of_mem hx
  have := h k hk
  rwa [nth_eq hk] at this

end

def eqI (a b : Int) : Bool := decide (a = b)

def eqV (a b : V3) : Bool := decide (a.x = b.x ∧ a.y = b.y ∧ a.z = b.z)

def eq2 (a b : Int × Int) : Bool := decide (a.1 = b.1 ∧ a.2 = b.2)

theorem eqI_refl (a : Int) : eqI a a = true := by simp [eqI]

def sameI (l l2 : List Int) : Bool := sameL eqI 0 l l2

def sameV (l l2 : List V3) : Bool := sameL eqV zeroV l l2

def same2 (l l2 : List (Int × Int)) : Bool := sameL eq2 (0, 0) l l2

def inR (lo hi n : Int) : Bool := decide (lo ≤ n ∧ n ≤ hi)

end

section


open Go.RowKit Go.ChangeShapes Go.WideShapes Go.ChangeAt

theorem add_none (g o j : Nat) : (⟨g, o, none⟩ : Addr).add j = ⟨g, o + j, none⟩ := by
  unfold Addr.add
  split <;> simp_all

def RowsAt (W : World) (ao : Option Addr) (n c : Nat) (Q : List Value → Prop) : Prop :=
  n = 0 ∨ ∃ g off, ao = some ⟨g, off, none⟩ ∧ g < W.heap.size ∧ ∀ i, i < n → ∃ cs : List Value, cs.length = c ∧ (∀ j, j < c → W.cell? ⟨g, off + (i * c + j), none⟩ = cs[j]?) ∧ Q cs

section

variable {H : Type} {enc : TypeId × Value → H} {P : Program} {W : World} {base : Nat} {spare : Nat → Bool} {held : Bool}

end

section

variable {H : Type} {enc : TypeId × Value → H} {P : Program} {W : World} {base : Nat} {spare : Nat → Bool} {held : Bool} {ao : Option Addr} {n : Nat} {e : TypeId}

end

end

section


open Go.RowKit Go.ChangeShapes Go.WideShapes Go.ChangeAt

def kindAt (P : Program) : Nat → TypeId → Nat → Nat
  | 0, _, _ => 3
  | k + 1, t, j => match P.underlying t with
    | some (.int .i64) => 0
    | some (.int .u8) => 1
    | some .bool => 2
    | some (.struct fs) => match fs.toList.find? (fun f => decide (f.offset ≤ j) && decide (j < f.offset + P.cellsOf f.type)) with
      | some f => kindAt P k f.type (j - f.offset)
      | none => 3
    | some (.array n e) => match (List.range n).find? (fun i => decide (i * P.cellsOf e ≤ j) && decide (j < i * P.cellsOf e + P.cellsOf e)) with
      | some i => kindAt P k e (j - i * P.cellsOf e)
      | none => 3
    | _ => 3

def isKind : Nat → Value → Prop
  | 0, c => ∃ n : Int, c = .int .i64 n
  | 1, c => ∃ n : Int, c = .int .u8 n ∧ 0 ≤ n ∧ n ≤ 255
  | 2, c => ∃ b : Bool, c = .bool b
  | _, _ => True

section

variable {H : Type} {enc : TypeId × Value → H} {P : Program} {W : World} {base : Nat} {spare : Nat → Bool} {held : Bool}

end

end

section


open Go.RowKit

theorem cell_lt {w : World} {g i : Nat} {v : Value} (h : w.cell? ⟨g, i, none⟩ = some v) : g < w.heap.size := by
  by_cases hg : g < w.heap.size
  · exact hg
  · rw [cell_none _ _ _ (by omega)] at h
    cases h

theorem cell_ex {w w' : World} {g i : Nat} {v : Value} (hw : ∃ y, w' = plus w y) (h : w.cell? ⟨g, i, none⟩ = some v) : w'.cell? ⟨g, i, none⟩ = some v := by
  obtain ⟨y, rfl⟩ := hw
  rw [plus_cell _ _ _ _ (cell_lt h)]
  exact h

theorem size_ex {w w' : World} (hw : ∃ y, w' = plus w y) : w.heap.size ≤ w'.heap.size := by
  obtain ⟨y, rfl⟩ := hw
  rw [plus_size]
  omega

theorem ex_trans {w w1 w2 : World} (h1 : ∃ y, w1 = plus w y) (h2 : ∃ y, w2 = plus w1 y) : ∃ y, w2 = plus w y := by
  obtain ⟨y, rfl⟩ := h2
  exact ex_plus h1

theorem ex_on {w w1 w2 : World} (h2 : ∃ y, w2 = plus w1 y) (h1 : ∃ y, w1 = plus w y) : ∃ y, w2 = plus w y := ex_trans h1 h2

theorem below_ex {w w' : World} (h : ∃ y, w' = plus w y) : Below w.heap.size w w' := by
  obtain ⟨y, rfl⟩ := h
  exact plus_below w y

structure PH where
  kind : Int
  ao : Option Addr
  n : Nat
  cap : Nat

def fP (h : PH) : List Value := [.int .u8 h.kind, .slice h.ao h.n h.cap]

theorem fP_c : ∀ x, (fP x).length = 2 := fun _ => rfl

theorem fP_1 : ∀ x, ∀ u ∈ fP x, u.oneCell' = true := by intro x u hu; simp only [fP, List.mem_cons, List.not_mem_nil, or_false] at hu; rcases hu with rfl | rfl <;> rfl

def dPH : PH := ⟨0, none, 0, 0⟩

def dPr : Pr := ⟨0, []⟩

theorem cellP {w : World} {g off n k : Nat} {l : List PH} (hl : l.length = n) (h : ∀ j u, (l.flatMap fP)[j]? = some u → w.cell? ⟨g, off + j, none⟩ = some u) (hk : k < n) :
    w.cell? ⟨g, off + k * 2, none⟩ = some (.int .u8 (nth dPH l k).kind) ∧ w.cell? ⟨g, off + k * 2 + 1, none⟩ = some (.slice (nth dPH l k).ao (nth dPH l k).n (nth dPH l k).cap) := by
  have h0 := cell_nth (d := dPH) hl fP_c h k 0 _ hk (by decide) rfl
  have h1 := cell_nth (d := dPH) hl fP_c h k 1 _ hk (by decide) rfl
  rw [Nat.add_zero] at h0
  rw [← Nat.add_assoc] at h1
  exact ⟨h0, h1⟩

structure PrimAt (w : World) (h : PH) (p : Pr) : Prop where
  kind : h.kind = p.kind
  lo : 0 ≤ p.kind
  hi : p.kind ≤ 255
  le : h.n ≤ 9223372036854775807
  nil : h.ao = none → h.n = 0 ∧ h.cap = 0
  lay : Lay fI w h.ao h.n p.ix

structure PrimsAt (w : World) (hs : List PH) (ps : List Pr) : Prop where
  len : hs.length = ps.length
  one : ∀ k, k < hs.length → PrimAt w (nth dPH hs k) (nth dPr ps k)

theorem PrimAt.ex {w w' : World} {h : PH} {p : Pr} (a : PrimAt w h p) (hw : ∃ x, w' = plus w x) : PrimAt w' h p := ⟨a.kind, a.lo, a.hi, a.le, a.nil, a.lay.ex hw⟩

theorem PrimsAt.ex {w w' : World} {hs : List PH} {ps : List Pr} (a : PrimsAt w hs ps) (hw : ∃ x, w' = plus w x) : PrimsAt w' hs ps := ⟨a.len, fun k hk => (a.one k hk).ex hw⟩

structure Ms where
  vs : List V3
  uv : List (Int × Int)
  ps : List Pr

structure MH where
  va : Option Addr
  vn : Nat
  vc : Nat
  ua : Option Addr
  un : Nat
  uc : Nat
  pa : Option Addr
  pn : Nat
  pc : Nat

def fM (h : MH) : Value := .agg #[.slice h.va h.vn h.vc, .slice h.ua h.un h.uc, .slice h.pa h.pn h.pc]

structure MeshAt (w : World) (h : MH) (hs : List PH) (m : Ms) : Prop where
  vle : h.vn ≤ 9223372036854775807
  ule : h.un ≤ 9223372036854775807
  ple : h.pn ≤ 9223372036854775807
  vnil : h.va = none → h.vn = 0 ∧ h.vc = 0
  unil : h.ua = none → h.un = 0 ∧ h.uc = 0
  pnil : h.pa = none → h.pn = 0 ∧ h.pc = 0
  vl : Lay fV w h.va h.vn m.vs
  ul : Lay f2 w h.ua h.un m.uv
  pl : Lay fP w h.pa h.pn hs
  pp : PrimsAt w hs m.ps

theorem MeshAt.ex {w w' : World} {h : MH} {hs : List PH} {m : Ms} (a : MeshAt w h hs m) (hw : ∃ x, w' = plus w x) : MeshAt w' h hs m :=
  ⟨a.vle, a.ule, a.ple, a.vnil, a.unil, a.pnil, a.vl.ex hw, a.ul.ex hw, a.pl.ex hw, a.pp.ex hw⟩

end

section


open Go.RowKit Go.ChangeShapes Go.WideShapes Go.ChangeAt Go.Deep

structure Cl where
  r : Int
  g : Int
  b : Int
  a : Int

def fCl (c : Cl) : List Value := [.int .u8 c.r, .int .u8 c.g, .int .u8 c.b, .int .u8 c.a]

def vCl (c : Cl) : Value := .agg #[.int .u8 c.r, .int .u8 c.g, .int .u8 c.b, .int .u8 c.a]

def cl0 : Cl := ⟨0, 0, 0, 0⟩

def ClB (c : Cl) : Prop := (0 ≤ c.r ∧ c.r ≤ 255) ∧ (0 ≤ c.g ∧ c.g ≤ 255) ∧ (0 ≤ c.b ∧ c.b ≤ 255) ∧ (0 ≤ c.a ∧ c.a ≤ 255)

theorem fCl_c : ∀ x, (fCl x).length = 4 := fun _ => rfl

theorem fCl_1 : ∀ x, ∀ u ∈ fCl x, u.oneCell' = true := by intro x u hu; simp only [fCl, List.mem_cons, List.not_mem_nil, or_false] at hu; rcases hu with rfl | rfl | rfl | rfl <;> rfl

def eqCx (a0 a1 a2 a3 b0 b1 b2 b3 : Int) : Bool := a0 == b0 && (a1 == b1 && (a2 == b2 && (a3 == b3)))

theorem eqCx_refl (a0 a1 a2 a3 : Int) : eqCx a0 a1 a2 a3 a0 a1 a2 a3 = true := by simp [eqCx]

def eqCl (c d : Cl) : Bool := eqCx c.r c.g c.b c.a d.r d.g d.b d.a

def sameC (l l2 : List Cl) : Bool := sameL eqCl cl0 l l2

structure TH where
  w : Int
  h : Int
  ao : Option Addr
  n : Nat
  cap : Nat

def fTh (t : TH) : List Value := [.int .i64 t.w, .int .i64 t.h, .slice t.ao t.n t.cap]

def vTh (t : TH) : Value := .agg #[.int .i64 t.w, .int .i64 t.h, .slice t.ao t.n t.cap]

def th0 : TH := ⟨0, 0, none, 0, 0⟩

theorem fTh_c : ∀ x, (fTh x).length = 3 := fun _ => rfl

theorem fTh_1 : ∀ x, ∀ u ∈ fTh x, u.oneCell' = true := by intro x u hu; simp only [fTh, List.mem_cons, List.not_mem_nil, or_false] at hu; rcases hu with rfl | rfl | rfl <;> rfl

theorem cellTh {w : World} {g off n k : Nat} {l : List TH} (hl : l.length = n) (h : ∀ j u, (l.flatMap fTh)[j]? = some u → w.cell? ⟨g, off + j, none⟩ = some u) (hk : k < n) :
    w.cell? ⟨g, off + k * 3, none⟩ = some (.int .i64 (nth th0 l k).w) ∧ w.cell? ⟨g, off + k * 3 + 1, none⟩ = some (.int .i64 (nth th0 l k).h) ∧ w.cell? ⟨g, off + k * 3 + 2, none⟩ = some (.slice (nth th0 l k).ao (nth th0 l k).n (nth th0 l k).cap) := by
  have h0 := cell_nth (d := th0) hl fTh_c h k 0 _ hk (by decide) rfl
  have h1 := cell_nth (d := th0) hl fTh_c h k 1 _ hk (by decide) rfl
  have h2 := cell_nth (d := th0) hl fTh_c h k 2 _ hk (by decide) rfl
  rw [Nat.add_zero] at h0
  rw [← Nat.add_assoc] at h1 h2
  exact ⟨h0, h1, h2⟩

structure TxAt (w : World) (h : TH) (l : List Cl) : Prop where
  le : h.n ≤ 9223372036854775807
  nil : h.ao = none → h.n = 0 ∧ h.cap = 0
  lay : Lay fCl w h.ao h.n l
  ok : ∀ k, k < h.n → ClB (nth cl0 l k)

theorem TxAt.ex {w w' : World} {h : TH} {l : List Cl} (a : TxAt w h l) (hw : ∃ x, w' = plus w x) : TxAt w' h l := ⟨a.le, a.nil, a.lay.ex hw, a.ok⟩

structure TxsAt (w : World) (hs : List TH) (ls : List (List Cl)) : Prop where
  len : hs.length = ls.length
  one : ∀ k, k < hs.length → TxAt w (nth th0 hs k) (nth [] ls k)

theorem TxsAt.ex {w w' : World} {hs : List TH} {ls : List (List Cl)} (a : TxsAt w hs ls) (hw : ∃ x, w' = plus w x) : TxsAt w' hs ls := ⟨a.len, fun k hk => (a.one k hk).ex hw⟩

section

variable {H : Type} {enc : TypeId × Value → H} {P : Program} {W : World} {base : Nat} {spare : Nat → Bool} {held : Bool}

variable {f0 f1 f2 : Field} {t e : TypeId}

end

def side (n : Int) : Bool := decide (1 ≤ n ∧ n ≤ 16)

def plc (n : Int) : Bool := decide (0 ≤ n ∧ n ≤ 255)

def mayT (w h : Int) (n : Nat) : Bool := side w && (side h && decide ((n : Int) = w * h))

def mayH (t : TH) : Bool := mayT t.w t.h t.n

def errT (w h : Int) (n : Nat) : Int := if mayT w h n then 0 else 8

def checksT (hs : List TH) : Int := if 16 < hs.length then 4 else if hs.all mayH then 0 else 8

def spot (w h u v : Int) : Int := v * h / 256 * w + u * w / 256

def atT (w h : Int) (n : Nat) (l : List Cl) (u v : Int) : Cl × Int :=
  if mayT w h n then if plc u && plc v then (nth cl0 l (spot w h u v).toNat, 0) else (cl0, 2) else (cl0, 8)

def sameT (w h : Int) (l : List Cl) (w2 h2 : Int) (l2 : List Cl) : Bool := decide (w = w2) && (decide (h = h2) && sameC l l2)

theorem mayT_side {w h : Int} {n : Nat} (hw : side w = false) : mayT w h n = false := by simp [mayT, hw]

theorem mayT_side2 {w h : Int} {n : Nat} (hh : side h = false) : mayT w h n = false := by simp [mayT, hh]

theorem mayT_len {w h : Int} {n : Nat} (hn : ¬ (n : Int) = w * h) : mayT w h n = false := by simp [mayT, hn]

theorem mayT_yes {w h : Int} {n : Nat} (hw : side w = true) (hh : side h = true) (hn : (n : Int) = w * h) : mayT w h n = true := by simp [mayT, hw, hh, hn]

theorem side_iff {n : Int} : side n = true ↔ 1 ≤ n ∧ n ≤ 16 := by simp [side]

theorem mul_le16 {w h : Int} (hw : 1 ≤ w ∧ w ≤ 16) (hh : 1 ≤ h ∧ h ≤ 16) : 1 ≤ w * h ∧ w * h ≤ 256 := by
  have h1 : 1 * 1 ≤ w * h := Int.mul_le_mul hw.1 hh.1 (by omega) (by omega)
  have h2 : w * h ≤ 16 * 16 := Int.mul_le_mul hw.2 hh.2 (by omega) (by omega)
  omega

end

section


structure Lk where
  r : Int
  g : Int
  b : Int
  a : Int
  tx : Int
  cu : Int
  bi : Int
  bl : Bool
  bn : Int

structure Sy where
  s0 : Int
  s1 : Int
  s2 : Int
  s3 : Int
  s4 : Int
  l : Lk

structure Ih where
  l : Lk
  k0 : Bool
  k1 : Bool
  k2 : Bool
  k3 : Bool
  k4 : Bool

def U8 (n : Int) : Prop := 0 ≤ n ∧ n ≤ 255

structure LkB (l : Lk) : Prop where
  r : U8 l.r
  g : U8 l.g
  b : U8 l.b
  a : U8 l.a
  cu : U8 l.cu

structure SyB (s : Sy) : Prop where
  s0 : U8 s.s0
  s1 : U8 s.s1
  s2 : U8 s.s2
  s3 : U8 s.s3
  s4 : U8 s.s4
  l : LkB s.l

def lk0 : Lk := ⟨0, 0, 0, 0, 0, 0, 0, false, 0⟩

def sy0 : Sy := ⟨0, 0, 0, 0, 0, lk0⟩

def ih0 : Ih := ⟨lk0, false, false, false, false, false⟩

def lkW : Lk := ⟨255, 255, 255, 255, -1, 0, 0, false, 0⟩

def ihW : Ih := ⟨lkW, false, false, false, false, false⟩

def lookOk (l : Lk) : Bool := decide (-1 ≤ l.tx) && (decide (l.tx < 16) && (decide (l.cu ≤ 2) && (decide (-1024 ≤ l.bi) && (decide (l.bi ≤ 1024) && (decide (0 ≤ l.bn) && decide (l.bn ≤ 15))))))

def lookErr (l : Lk) : Int := if lookOk l then 0 else 8

def sayOk (n : Int) : Bool := decide (n = 0) || (decide (n = 1) || (decide (n = 3) || (decide (n = 5) || decide (n = 7))))

def t0 (n : Int) (l o : Lk) : Lk := if n = 0 then l else { l with r := o.r, g := o.g, b := o.b, a := o.a }

def t1 (n : Int) (l o : Lk) : Lk := if n = 0 then l else { l with tx := o.tx }

def t2 (n : Int) (l o : Lk) : Lk := if n = 0 then l else { l with cu := o.cu }

def t3 (n : Int) (l o : Lk) : Lk := if n = 0 then l else { l with bi := o.bi }

def t4 (n : Int) (l o : Lk) : Lk := if n = 0 then l else { l with bl := o.bl, bn := o.bn }

def sd (s : Sy) (l : Lk) : Nat → Lk
  | 0 => t0 s.s0 l s.l
  | 1 => t1 s.s1 l s.l
  | 2 => t2 s.s2 l s.l
  | 3 => t3 s.s3 l s.l
  | _ => t4 s.s4 l s.l

def saidTo (s : Sy) : Nat → Lk
  | 0 => lk0
  | k + 1 => sd s (saidTo s k) k

def said (s : Sy) : Lk := saidTo s 5

def eqC (x y : Lk) : Bool := x.r == y.r && (x.g == y.g && (x.b == y.b && x.a == y.a))

def eqL (x y : Lk) : Bool := eqC x y && (x.tx == y.tx && (x.cu == y.cu && (x.bi == y.bi && (x.bl == y.bl && x.bn == y.bn))))

def eqK (x y : Ih) : Bool := x.k0 == y.k0 && (x.k1 == y.k1 && (x.k2 == y.k2 && (x.k3 == y.k3 && x.k4 == y.k4)))

def eqIh (x y : Ih) : Bool := eqL x.l y.l && eqK x y

theorem eqL_refl (x : Lk) : eqL x x = true := by simp [eqL, eqC]

theorem eqL_iff {x y : Lk} : eqL x y = true ↔ x = y := by
  constructor
  · intro h
    obtain ⟨r, g, b, a, t, c, i, l, n⟩ := x
    obtain ⟨r2, g2, b2, a2, t2, c2, i2, l2, n2⟩ := y
    simp [eqL, eqC] at h
    obtain ⟨⟨h1, h2, h3, h4⟩, h5, h6, h7, h8, h9⟩ := h
    subst h1 h2 h3 h4 h5 h6 h7 h8 h9
    rfl
  · rintro rfl
    exact eqL_refl x

def saysOk (s : Sy) : Bool := sayOk s.s0 && (sayOk s.s1 && (sayOk s.s2 && (sayOk s.s3 && sayOk s.s4)))

def styOk (s : Sy) : Bool := saysOk s && (lookOk s.l && eqL (said s) s.l)

def styErr (s : Sy) : Int := if styOk s then 0 else 8

def noSay (s : Sy) : Bool := s.s0 == 0 && (s.s1 == 0 && (s.s2 == 0 && (s.s3 == 0 && s.s4 == 0)))

def takes (n : Int) (k : Bool) : Bool := !(n == 0) && (!k || decide (4 ≤ n))

def overs (n : Int) : Bool := n == 3 || n == 7

def u0 (i : Ih) (s : Sy) : Ih := if takes s.s0 i.k0 then { i with l := { i.l with r := s.l.r, g := s.l.g, b := s.l.b, a := s.l.a }, k0 := overs s.s0 } else i

def u1 (i : Ih) (s : Sy) : Ih := if takes s.s1 i.k1 then { i with l := { i.l with tx := s.l.tx }, k1 := overs s.s1 } else i

def u2 (i : Ih) (s : Sy) : Ih := if takes s.s2 i.k2 then { i with l := { i.l with cu := s.l.cu }, k2 := overs s.s2 } else i

def u3 (i : Ih) (s : Sy) : Ih := if takes s.s3 i.k3 then { i with l := { i.l with bi := s.l.bi }, k3 := overs s.s3 } else i

def u4 (i : Ih) (s : Sy) : Ih := if takes s.s4 i.k4 then { i with l := { i.l with bl := s.l.bl, bn := s.l.bn }, k4 := overs s.s4 } else i

def mk (i : Ih) (s : Sy) : Nat → Ih
  | 0 => u0 i s
  | 1 => u1 i s
  | 2 => u2 i s
  | 3 => u3 i s
  | _ => u4 i s

def madeTo (i : Ih) (s : Sy) : Nat → Ih
  | 0 => i
  | k + 1 => mk (madeTo i s k) s k

def made (i : Ih) (s : Sy) : Ih := madeTo i s 5

def underOk (i : Ih) (s : Sy) : Bool := lookOk i.l && styOk s

def underErr (i : Ih) (s : Sy) : Int := if underOk i s then 0 else 8

def under (i : Ih) (s : Sy) : Ih := if underOk i s then made i s else ih0

end

section


open Go.RowKit

structure Sl where
  gen : Int
  live : Bool

def dSl : Sl := ⟨0, false⟩

def slOk (s : Sl) : Bool := decide (1 ≤ s.gen) && decide (s.gen ≤ 1073741824)

def arOk (l : List Sl) : Bool := l.all slOk && decide (l.length ≤ 128)

def freeS (s : Sl) : Bool := !s.live && decide (s.gen < 1073741824)

def heldIn (l : List Sl) (s g : Int) : Bool := decide (0 ≤ s ∧ s < l.length) && ((nth dSl l s.toNat).live && decide ((nth dSl l s.toNat).gen = g))

def holds (l : List Sl) (s g : Int) : Bool := arOk l && heldIn l s g

def freeAt : List Sl → Nat
  | [] => 0
  | s :: r => if freeS s = true then 0 else freeAt r + 1

def mkErr (l : List Sl) : Int := if arOk l = true then (if freeAt l < l.length then 0 else if l.length = 128 then 9 else 0) else 8

def mkList (l : List Sl) : List Sl := if freeAt l < l.length then l.set (freeAt l) ⟨(nth dSl l (freeAt l)).gen + 1, true⟩ else l ++ [⟨1, true⟩]

def mkSlot (l : List Sl) : Int := freeAt l

def mkGen (l : List Sl) : Int := if freeAt l < l.length then (nth dSl l (freeAt l)).gen + 1 else 1

def killErr (l : List Sl) (s g : Int) : Int := if arOk l = true then (if heldIn l s g = true then 0 else 50) else 8

def killList (l : List Sl) (s : Int) : List Sl := l.set s.toNat ⟨(nth dSl l s.toNat).gen, false⟩

theorem nth_set' {α : Type} {d x : α} {l : List α} {k j : Nat} (hk : k < l.length) : nth d (l.set k x) j = if j = k then x else nth d l j := by
  unfold nth
  by_cases e : j = k
  · subst e
    simp [hk]
  · have e' : ¬ k = j := fun h => e h.symm
    simp [e, e']

theorem freeAt_le : ∀ l : List Sl, freeAt l ≤ l.length
  | [] => Nat.le_refl _
  | s :: r => by
    have := freeAt_le r
    unfold freeAt
    split
    · exact Nat.zero_le _
    · rw [List.length_cons]; omega

theorem freeAt_before : ∀ {l : List Sl} {k : Nat}, k < freeAt l → freeS (nth dSl l k) = false
  | [], k, hk => by simp [freeAt] at hk
  | s :: r, k, hk => by
    unfold freeAt at hk
    split at hk
    · omega
    · rename_i h
      match k with
      | 0 => simpa [nth] using h
      | k + 1 => exact freeAt_before (l := r) (k := k) (by omega)

theorem freeAt_here : ∀ {l : List Sl}, freeAt l < l.length → freeS (nth dSl l (freeAt l)) = true
  | [], h => by simp at h
  | s :: r, h => by
    unfold freeAt at *
    split at h
    · rename_i h1
      rw [if_pos h1]
      exact h1
    · rename_i h1
      rw [if_neg h1]
      exact freeAt_here (l := r) (by rw [List.length_cons] at h; omega)

theorem freeAt_is {l : List Sl} {k : Nat} (hk : k ≤ l.length) (h1 : ∀ j, j < k → freeS (nth dSl l j) = false) (h2 : k < l.length → freeS (nth dSl l k) = true) : freeAt l = k := by
  rcases Nat.lt_trichotomy (freeAt l) k with h | h | h
  · have := h1 _ h
    rw [freeAt_here (by omega)] at this
    cases this
  · exact h
  · have := freeAt_before h
    rw [h2 (Nat.lt_of_lt_of_le h (freeAt_le l))] at this
    cases this

theorem arOk_at {l : List Sl} (h : arOk l = true) {k : Nat} (hk : k < l.length) : 1 ≤ (nth dSl l k).gen ∧ (nth dSl l k).gen ≤ 1073741824 := by
  simp only [arOk, Bool.and_eq_true, List.all_eq_true] at h
  have := h.1 _ (nth_mem (d := dSl) hk)
  simpa [slOk] using this

theorem arOk_len {l : List Sl} (h : arOk l = true) : l.length ≤ 128 := by
  simp only [arOk, Bool.and_eq_true, decide_eq_true_eq] at h
  exact h.2

theorem held_spec {l : List Sl} {s g : Int} : heldIn l s g = true ↔ (0 ≤ s ∧ s < l.length) ∧ (nth dSl l s.toNat).live = true ∧ (nth dSl l s.toNat).gen = g := by
  simp [heldIn, Bool.and_eq_true]

structure Keeps (l : List Sl) (gv : List (Int × Int)) (lv : List Bool) : Prop where
  len : gv.length = lv.length
  rng : ∀ k, k < gv.length → 0 ≤ (nth (0, 0) gv k).1 ∧ (nth (0, 0) gv k).1 < l.length ∧ (nth (0, 0) gv k).2 ≤ (nth dSl l (nth (0, 0) gv k).1.toNat).gen
  is : ∀ k, k < gv.length → heldIn l (nth (0, 0) gv k).1 (nth (0, 0) gv k).2 = nth false lv k
  two : ∀ j k, j < gv.length → k < gv.length → nth (0, 0) gv j = nth (0, 0) gv k → j = k

end

end Go.Proofs.YtcekcihijdipoaaGreat
