/- A world that has grown: 'plus w x' is the world w with the blocks blocks x laid behind its own, and some other count of draws. Whatever only computes, reads and makes new memory ends in such a world; all that was there is read as before. -/
import Derived.WalkKit
import Derived.ProofKit
import Derived.OpenShut
import Derived.BigQuiet
import Derived.WalkSpells
import Derived.Deep.RegionWith
import Derived.LoopN
namespace Go.Proofs.Ytimmbpcoagjcbaa
open Go.RowKit

structure More where
  blocks : Array Obj
  draws : Nat

/-- (A list, so that there is one without an instance of ours: its first is meant.) -/
def blocks (x : List More) : Array Obj := match x with | m :: _ => m.blocks | [] => #[]
def draws (x : List More) : Nat := match x with | m :: _ => m.draws | [] => 0

def plus (w : World) (x : List More) : World := { w with heap := w.heap ++ blocks x, drawn := draws x }

theorem plus_size (w : World) (x : List More) : (plus w x).heap.size = w.heap.size + (blocks x).size := by
  simp [plus]

theorem plus_block (w : World) (x : List More) (n : Nat) (h : n < w.heap.size) : (plus w x).heap[n]? = w.heap[n]? := by
  simp [plus, Array.getElem?_append, h]

theorem plus_cell (w : World) (x : List More) (n i : Nat) (h : n < w.heap.size) : (plus w x).cell? ⟨n, i, none⟩ = w.cell? ⟨n, i, none⟩ :=
  World.cell?_of_block (w := w) (plus_block w x n h)

theorem plus_frozen (w : World) (x : List More) (n i : Nat) (h : n < w.heap.size) : (plus w x).frozen? ⟨n, i, none⟩ = w.frozen? ⟨n, i, none⟩ :=
  World.frozen?_of_block (w := w) (plus_block w x n h)

theorem plus_drew (w : World) (x : List More) : (plus w x).drew = plus w [⟨blocks x, draws x + 1⟩] := rfl

theorem plus_below (w : World) (x : List More) : Below w.heap.size w (plus w x) :=
  ⟨rfl, rfl, rfl, by simp [plus], fun n h => plus_block w x n h⟩

theorem below_plus {w w' : World} (h : Below w.heap.size w w') : ∃ x, w' = plus w x := by
  obtain ⟨ho, ht, hp, hs, hb⟩ := h
  refine ⟨[⟨w'.heap.extract w.heap.size w'.heap.size, w'.drawn⟩], ?_⟩
  have e : w'.heap = w.heap ++ w'.heap.extract w.heap.size w'.heap.size := by
    apply Array.ext_getElem?
    intro i
    by_cases hi : i < w.heap.size
    · rw [hb i hi, Array.getElem?_append, if_pos hi]
    · rw [Array.getElem?_append, if_neg hi, Array.getElem?_extract]
      by_cases h2 : i < w'.heap.size
      · rw [if_pos (by omega)]
        congr 1
        omega
      · rw [if_neg (by omega)]
        simp
        omega
  cases w'
  simp only [plus, blocks, draws] at *
  subst ho ht hp
  rw [← e]

theorem plus_setCell (w : World) (x : List More) (n i : Nat) (v : Value) (h : n < w.heap.size) :
    (plus w x).setCell ⟨n, i, none⟩ v = plus (w.setCell ⟨n, i, none⟩ v) x := by
  unfold World.setCell plus
  congr 1
  apply Array.ext_getElem?
  intro k
  simp only [Array.getElem?_modify, Array.getElem?_append, Array.size_modify]
  by_cases hk : n = k
  · subst hk; simp [h]
  · simp [hk]

theorem lt_add (a b k : Nat) (h : a < b) : (a < b + k) = True := by simp; omega
theorem le_add (a b k : Nat) (h : a ≤ b) : (a ≤ b + k) = True := by simp; omega
theorem ne_add (a b k : Nat) (h : a < b) : (a = b + k) = False := by simp; omega
theorem ne_add' (a b k : Nat) (h : a < b) : (b + k = a) = False := by simp; omega

/-! The same without a side condition, by an 'if' that linear arithmetic decides: the walk's own depth of side conditions is small. -/
def farCell (w : World) (x : List More) (n i : Nat) : Option Value := (plus w x).cell? ⟨n, i, none⟩
def farFrozen (w : World) (x : List More) (n i : Nat) : Bool := (plus w x).frozen? ⟨n, i, none⟩
def farSet (w : World) (x : List More) (n i : Nat) (v : Value) : World := (plus w x).setCell ⟨n, i, none⟩ v

theorem cell_plus (w : World) (x : List More) (n i : Nat) : (plus w x).cell? ⟨n, i, none⟩ = if n < w.heap.size then w.cell? ⟨n, i, none⟩ else farCell w x n i := by
  split
  · exact plus_cell w x n i (by assumption)
  · rfl
theorem frozen_plus (w : World) (x : List More) (n i : Nat) : (plus w x).frozen? ⟨n, i, none⟩ = if n < w.heap.size then w.frozen? ⟨n, i, none⟩ else farFrozen w x n i := by
  split
  · exact plus_frozen w x n i (by assumption)
  · rfl
theorem set_plus (w : World) (x : List More) (n i : Nat) (v : Value) : (plus w x).setCell ⟨n, i, none⟩ v = if n < w.heap.size then plus (w.setCell ⟨n, i, none⟩ v) x else farSet w x n i v := by
  split
  · exact plus_setCell w x n i v (by assumption)
  · rfl
theorem cell_none (w : World) (n i : Nat) (h : w.heap.size ≤ n) : w.cell? ⟨n, i, none⟩ = none := by
  simp [World.cell?, Array.getElem?_eq_none h]
theorem cell_alloc (w : World) (c : Array Value) (t : TypeId) (n i : Nat) : (w.alloc (.cells c t)).cell? ⟨n, i, none⟩ = if n = w.heap.size then c[i]? else w.cell? ⟨n, i, none⟩ := by
  split
  · exact World.cell?_alloc_at _ _ _ _ (by assumption)
  · by_cases h : n < w.heap.size
    · exact World.cell?_alloc_past _ _ _ h
    · rw [cell_none _ _ _ (by simp; omega), cell_none _ _ _ (by omega)]
theorem frozen_none (w : World) (n i : Nat) (h : w.heap.size ≤ n) : w.frozen? ⟨n, i, none⟩ = false := by
  simp [World.frozen?, Array.getElem?_eq_none h]
theorem frozen_alloc (w : World) (c : Array Value) (t : TypeId) (n i : Nat) : (w.alloc (.cells c t)).frozen? ⟨n, i, none⟩ = if n = w.heap.size then false else w.frozen? ⟨n, i, none⟩ := by
  split
  · exact World.frozen?_alloc_at _ _ _ _ (by assumption)
  · by_cases h : n < w.heap.size
    · exact World.frozen?_alloc_past _ _ _ h
    · rw [frozen_none _ _ _ (by simp; omega), frozen_none _ _ _ (by omega)]
theorem set_none (w : World) (n i : Nat) (v : Value) (h : w.heap.size ≤ n) : w.setCell ⟨n, i, none⟩ v = w := by
  unfold World.setCell
  congr 1
  apply Array.ext_getElem?
  intro k
  rw [Array.getElem?_modify]
  split
  · rename_i e; subst e; simp [Array.getElem?_eq_none h]
  · rfl
theorem set_alloc (w : World) (c : Array Value) (t : TypeId) (n i : Nat) (v : Value) : (w.alloc (.cells c t)).setCell ⟨n, i, none⟩ v = if n = w.heap.size then w.alloc (.cells (c.setIfInBounds i v) t) else (w.setCell ⟨n, i, none⟩ v).alloc (.cells c t) := by
  split
  · exact World.setCell_alloc_at _ _ _ _ _ (by assumption)
  · by_cases h : n < w.heap.size
    · exact World.setCell_alloc_past _ _ _ _ h
    · rw [set_none _ _ _ _ (by simp; omega), set_none _ _ _ _ (by omega)]

/-- A callee that ends in a grown world, met in a grown world. -/
theorem plus_of {P : Program} {f : FuncId} {args : Array Value} {w : World} {x : List More} {v : Value}
    (h : Calls P f args (plus w x) fun e w' => e = .returned v ∧ Below (plus w x).heap.size (plus w x) w') : Calls P f args (plus w x) fun e w' => e = .returned v ∧ ∃ y, w' = plus w y :=
  h.mono fun _ _ ⟨he, hb⟩ => ⟨he, below_plus ((plus_below w x).trans (hb.mono (by rw [plus_size]; omega)))⟩

/-- A callee that ends in a grown world: the world behind it by name. -/
theorem plus_post {P : Program} {f : FuncId} {args : Array Value} {w : World} {v : Value}
    (h : Calls P f args w fun e w' => e = .returned v ∧ Below w.heap.size w w') : Calls P f args w fun e w' => e = .returned v ∧ ∃ y, w' = plus w y :=
  h.mono fun _ _ ⟨he, hb⟩ => ⟨he, below_plus hb⟩

/-- A region that draws its order, whose operations read and call what only makes new memory: one walk in the order of the text. -/
theorem region_plus {P : Program} {id : Nat} {Q : Exit → Act → World → Prop} {a : Act} {w : World} {l : List Oper} (hm : P.follows .mixedOrders = true) (hB : Region.lexB .any l.toArray = true)
    (h : wpQuiet P l.toArray (fun w' => ∃ x, w' = plus w x) (fun a' => ∀ w', (∃ x, w' = plus w x) → Q .normal a' w') l a) : (Code.region id l.toArray true).wp P Q a w :=
  wp_region_quiet (C := fun w' => ∃ x, w' = plus w x) hm hB ⟨[⟨#[], w.drawn + 1⟩], by simp [plus, blocks, draws]⟩ (by simpa using h)

/-! 'Below' of a world that is written out: 'by with_reducible repeat (first | exact Below.refl _ _ | apply ba | apply bp | apply bd | apply bn)' -/
theorem ba {a w : World} {o : Obj} (h : Below a.heap.size a w) : Below a.heap.size a (w.alloc o) := h.alloc h.size o
theorem bp {a w : World} {x : List More} (h : Below a.heap.size a w) : Below a.heap.size a (plus w x) := h.trans ((plus_below w x).mono h.size)
theorem bd {a w : World} (h : Below a.heap.size a w) : Below a.heap.size a w.drew := h.drew
theorem bn {a w : World} {n : Nat} (h : Below a.heap.size a w) : Below a.heap.size a (w.drewN n) := ⟨h.os, h.tape, h.output, h.size, h.block⟩

theorem dn_set (w : World) (n : Nat) (a : Addr) (v : Value) : (w.drewN n).setCell a v = (w.setCell a v).drewN n := rfl
theorem dn_alloc (w : World) (n : Nat) (o : Obj) : (w.drewN n).alloc o = (w.alloc o).drewN n := rfl
theorem dn_plus (w : World) (n : Nat) (x : List More) : (plus w x).drewN n = plus w [⟨blocks x, draws x + n⟩] := rfl
theorem plus_dn (w : World) (n : Nat) (x : List More) : plus (w.drewN n) x = plus w x := rfl

theorem below_end {w w1 w2 : World} (h : Below w.heap.size w w1) (x : List More) (e : w2 = plus w1 x) : Below w.heap.size w w2 := by
  subst e
  exact h.trans ((plus_below w1 x).mono h.size)

/-! What has grown behind a world T counts no more: 'refine soak (T := ..) (by soaks) (fun x => ?_)' between two rounds that are walked one by one. -/
theorem ex_refl (w : World) : ∃ x, w = plus w x := ⟨[⟨#[], w.drawn⟩], by simp [plus, blocks, draws]⟩
theorem ex_plus {W T : World} {y : List More} (h : ∃ x, W = plus T x) : ∃ x, plus W y = plus T x := by
  obtain ⟨x, rfl⟩ := h
  exact ⟨[⟨blocks x ++ blocks y, draws y⟩], by simp [plus, blocks, draws]⟩
theorem ex_alloc {W T : World} {o : Obj} (h : ∃ x, W = plus T x) : ∃ x, W.alloc o = plus T x := by
  obtain ⟨x, rfl⟩ := h
  exact ⟨[⟨blocks x ++ #[o], draws x⟩], by simp [plus, blocks, draws, World.alloc]⟩
theorem ex_drew {W T : World} (h : ∃ x, W = plus T x) : ∃ x, W.drew = plus T x := by
  obtain ⟨x, rfl⟩ := h
  exact ⟨_, plus_drew T x⟩
theorem ex_drewN {W T : World} {n : Nat} (h : ∃ x, W = plus T x) : ∃ x, W.drewN n = plus T x := by
  obtain ⟨x, rfl⟩ := h
  exact ⟨_, dn_plus T n x⟩
theorem soak {P : Program} {c : Code} {Q : Exit → Act → World → Prop} {n : Nat} {a : Act} {W : World} (T : World) (h : ∃ x, W = plus T x) (k : ∀ x, Code.rounds P c Q n a (plus T x)) : Code.rounds P c Q n a W := by
  obtain ⟨x, rfl⟩ := h
  exact k x

end Go.Proofs.Ytimmbpcoagjcbaa
