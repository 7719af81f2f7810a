/- A pack of texts: Own2, Tail, Rel, Rel2. -/
import Derived.Laws.OwnMore
import Derived.StillTail
import Derived.Test.YtcekcihijdipoaaGreatPD2
namespace Go.Proofs.YtcekcihijdipoaaGreat
section
open Go.RowKit
theorem qe(w:World)(o:Obj)(g:Nat):(w.alloc o).heap[g]?=if g=w.heap.size then some o else w.heap[g]?:=by
 show(w.heap.push o)[g]?=_;rw[Array.getElem?_push]
theorem i6{w:World}{g i:Nat}{c:Array Value}{t:TypeId}{u:Value}(h:w.heap[g]?=some (.cells c t))(hi:c[i]?=some u):w.cell? ⟨g,i,none⟩=some u:=by
 simp[World.cell?,h,hi]
theorem j9{w:World}{g i:Nat}{c:Array Value}{t:TypeId}(h:w.heap[g]?=some (.cells c t)):w.frozen? ⟨g,i,none⟩=false:=by
 simp[World.frozen?,h]
theorem qi{w:World}{g:Nat}{o:Obj}(h:w.heap[g]?=some o):g<w.heap.size:=(Array.getElem?_eq_some_iff.1 h).1
theorem i7{w w':World}{g:Nat}{o:Obj}(hw:∃y,w'=plus w y)(h:w.heap[g]?=some o):w'.heap[g]?=some o:=by
 obtain⟨y,rfl⟩:=hw;rw[M8 _ _ _ (qi h)];exact h
theorem qd{w:World}{g k i:Nat}{u:Value}(h:g≠k):(w.setCell ⟨g,i,none⟩ u).heap[k]?=w.heap[k]?:=by
 unfold World.setCell;simp[Array.getElem?_modify,h]
theorem j7{w:World}{g i:Nat}{u:Value}{c:Array Value}{t:TypeId}(h:w.heap[g]?=some (.cells c t)):(w.setCell ⟨g,i,none⟩ u).heap[g]?=some (.cells (c.setIfInBounds i u) t):=by
 unfold World.setCell;simp[Array.getElem?_modify,h]
theorem B9(w:World)(g i:Nat)(u:Value):(w.setCell ⟨g,i,none⟩ u).heap.size=w.heap.size:=by
 unfold World.setCell;simp
theorem qb{w T:World}{g i:Nat}{u:Value}(hw:∃y,w=plus T y)(hg:T.heap.size≤g):∃y,w.setCell ⟨g,i,none⟩ u=plus T y:=by
 obtain⟨y,rfl⟩:=hw;apply C3;have hb:=A3 T y;refine⟨hb.os,hb.tape,hb.output,by rw[B9];exact hb.size,fun n hn=>?_⟩;rw[qd om0];exact hb.block n hn
section
variable {α:Type} {f:α→List Value} {w T:World} {ao:Option Addr} {n cap c g i:Nat} {l:List α} {e e':TypeId} {cur:Array Value} {u:Value}
theorem Own.set_other(h:Own e c f T w ao n cap l)(hb:w.heap[g]?=some (.cells cur e'))(he:e'≠e):Own e c f T (w.setCell ⟨g,i,none⟩ u) ao n cap l:=by
 refine⟨h.1,h.2.1,h.2.2.imp id ?_⟩;rintro⟨k,cp,cu,h1,h2,h3,h4⟩;refine⟨k,cp,cu,h1,h2,?_,h4⟩;have hne:g≠k:=by
  intro e2;subst e2;rw[hb]at h3;cases h3;exact he rfl
 rw[qd hne];exact h3
theorem Own.blk(h:Own e c f T w ao n cap l)(hn:0<n):∃g cur,ao=some ⟨g,0,none⟩∧T.heap.size≤g∧w.heap[g]?=some (.cells cur e)∧n*c≤cur.size:=by
 rcases h.2.2 with⟨_,h0⟩|⟨k,cp,cu,h1,h2,h3,h4,_,h5,_⟩
 ·omega
 ·simp only[Value.slice.injEq]at h1;refine⟨k,cu,h1.1,h2,h3,?_⟩;rw[h5];exact Nat.mul_le_mul_right _ h4
theorem Own.set_self(h:Own e c f T w (some ⟨g,0,none⟩) n cap l)(k j:Nat)(x d:α)(hk:k<n)(hc:∀x,(f x).length=c)(hj:j<c)(hx:f x=(f (nth d l k)).set j u):
  Own e c f T (w.setCell ⟨g,k*c+j,none⟩ u) (some ⟨g,0,none⟩) n cap (l.set k x):=by
 have h2:=World.ownsRow.stored h.2 (k*c+j) u;refine⟨by rw[List.length_set];exact h.1,?_⟩;have e1:(l.set k x).flatMap f=(l.flatMap f).set (k*c+j) u:=by
  have hkl:k<l.length:=by rw[h.1];exact hk
  apply List.ext_getElem?;intro q;by_cases hq:q<n*c
  ·have hc0:0<c:=om0;have hqn:q / c<n:=(Nat.div_lt_iff_lt_mul hc0).2 hq;have e2:q / c*c+q % c=q:=by rw[Nat.mul_comm];exact Nat.div_add_mod q c
   have hqm:=Nat.mod_lt q hc0;rw[List.getElem?_set];have e3:((l.set k x).flatMap f)[q]?=(f ((l.set k x)[q / c]'(by rw[List.length_set,h.1];exact hqn)))[q % c]?:=by
    have:=ad7 hc (l.set k x) (q / c) (by rw[List.length_set,h.1];exact hqn) (q % c) hqm;rwa[e2]at this
   have e4:(l.flatMap f)[q]?=(f (l[q / c]'(by rw[h.1];exact hqn)))[q % c]?:=by
    have:=ad7 hc l (q / c) (by rw[h.1];exact hqn) (q % c) hqm;rwa[e2]at this
   rw[e3,e4,List.getElem_set];by_cases ek:k=q / c
   ·rw[if_pos ek,hx,List.getElem?_set];have e5:nth d l k=l[q / c]'(by rw[h.1];exact hqn):=by
     subst ek;rw[Qv hkl]
    rw[e5];have hlen:j<(f (l[q / c]'(by rw[h.1];exact hqn))).length:=by rw[hc];exact hj
    have hlen2:k*c+j<(l.flatMap f).length:=by
     rw[zE hc,h.1];have:k*c+j<(k+1)*c:=by rw[Nat.succ_mul];omega
     exact Nat.lt_of_lt_of_le this (Nat.mul_le_mul_right c hk)
    by_cases ej:j=q % c
    ·rw[if_pos ej,if_pos hlen,if_pos (show k*c+j=q by rw[ek,ej];exact e2),if_pos hlen2]
    ·rw[if_neg ej,if_neg (by rw[ek];intro e6;exact ej (Nat.add_left_cancel (e6.trans e2.symm)))]
   ·rw[if_neg ek,if_neg];intro e6;apply ek;rw[←e6,Nat.add_comm,Nat.add_mul_div_right _ _ hc0,Nat.div_eq_of_lt hj,Nat.zero_add]
  ·rw[List.getElem?_eq_none (by rw[zE hc,List.length_set,h.1];omega),List.getElem?_eq_none (by rw[List.length_set,zE hc,h.1];omega)]
 rw[e1];exact h2.1
theorem Own.set_new{w':World}{q:Nat}(h:Own e c f T w ao n cap l)(hw:∃y,w'=Go.Proofs.YtcekcihijdipoaaGreat.plus w y)(hq:w.heap.size≤q):Own e c f T (w'.setCell ⟨q,i,none⟩ u) ao n cap l:=by
 refine⟨h.1,h.2.1,h.2.2.imp id ?_⟩;rintro⟨k,cp,cu,h1,h2,h3,h4⟩;refine⟨k,cp,cu,h1,h2,?_,h4⟩;have:=qi h3;rw[qd om0];exact i7 hw h3
theorem Own.none_zero(h:Own e c f T w ao n cap l):ao=none→n=0∧cap=0:=by
 intro e0;rcases h.2.2 with⟨h1,h0⟩|⟨k,cp,cu,h1,_⟩
 ·simp only[Value.slice.injEq]at h1;exact⟨h0,h1.2.2⟩
 ·simp only[Value.slice.injEq,e0]at h1;cases h1.1
theorem ZR{d x:α}{k j:Nat}(hk:k<l.length):nth d (l.set k x) j=if j=k then x else nth d l j:=by
 unfold nth;by_cases e:j=k
 ·subst e;simp[hk]
 ·have e':¬k=j:=fun h=>e h.symm
  simp[e,e']
end
end
section
open Go.RowKit
section
variable {P:Program} {md:Region.Mode} {C:World→Prop} {l:List Oper} {n:Nat}
def aq7 (md:Region.Mode) (l:List Oper) (n:Nat):Bool:=
 (List.range n).all fun i=>match l[i]? with
  |some o=>(o.after.all fun e=>!Region.binds md e||decide (e.on<i))&&(match o.guard with|some (j,_)=>decide (j<n)|none=>true)
  |none=>true
def N5 (md:Region.Mode) (ops:Array Oper) (n:Nat):Nat→Nat→Nat→Bool
 |0,t,i=>Region.waitsFor md ops t i
 |f+1,t,i=>Region.waitsFor md ops t i||(List.range n).any fun j=>Region.waitsFor md ops t j&&N5 md ops n f j i
def a7X (md:Region.Mode) (l:List Oper) (n:Nat):Bool:=
 (List.range l.length).all fun t=>decide (t<n)||(List.range n).all fun i=>N5 md l.toArray n 2 t i
def a56 (md:Region.Mode) (ops:Array Oper) (n:Nat) (L:Array Bool):Prop:=
 ∀j i,j<n→L.getD j false=true→Region.waitsFor md ops j i=true→L.getD i false=true
theorem J3{ops:Array Oper}{L:Array Bool}(hS:a56 md ops n L):∀f t i,(∀j,Region.waitsFor md ops t j=true→L.getD j false=true)→N5 md ops n f t i=true→L.getD i false=true:=by
 intro f
 induction f with
 |zero=>intro t i ht h;exact ht i h
 |succ f ih=>
  intro t i ht h;simp only[N5,Bool.or_eq_true]at h;rcases h with h|h
  ·exact ht i h
  ·obtain⟨j,hj,h2⟩:=List.any_eq_true.1 h;simp only[Bool.and_eq_true]at h2;exact ih j i (fun k hk=>hS j k (List.mem_range.1 hj) (ht j h2.1) hk) h2.2
theorem T6(h:aq7 md l n=true){i:Nat}{o:Oper}(hi:i<n)(ho:l[i]?=some o):(∀e∈o.after,Region.binds md e=true→e.on<i)∧∀j b,o.guard=some (j,b)→j<n:=by
 have h1:=List.all_eq_true.1 h i (List.mem_range.2 hi);simp only[ho,Bool.and_eq_true]at h1;refine⟨fun e he hbd=>?_,fun j b hg=>?_⟩
 ·have:=Array.all_eq_true'.1 h1.1 e he
  simpa [hbd]using this
 ·have h2:=h1.2;rw[hg]at h2
  simpa using h2
theorem a4v(h:a7X md l n=true){t i:Nat}(ht:n≤t)(htl:t<l.length)(hi:i<n):N5 md l.toArray n 2 t i=true:=by
 have h1:=List.all_eq_true.1 h t (List.mem_range.2 htl);simp only[Bool.or_eq_true,decide_eq_true_eq]at h1;rcases h1 with h1|h1
 ·omega
 ·exact List.all_eq_true.1 h1 i (List.mem_range.2 hi)
theorem M0(i:Nat)(hi:i<n):(l.take n).toArray[i]?=l.toArray[i]?:=by
 simp[hi]
theorem a2f(h:aq7 md l n=true){i:Nat}{o:Oper}(hi:i<n)(ho:l[i]?=some o)(t:Array Value):
  Region.wanted o (yielded (l.take n).toArray t)=Region.wanted o (yielded l.toArray t):=by
 unfold Region.wanted;cases hg:o.guard with
 |none=>rfl
 |some g=>
  obtain⟨j,b⟩:=g;have hj:=(T6 h hi ho).2 j b hg;show(yielded (l.take n).toArray t j==some b)=(yielded l.toArray t j==some b);unfold yielded;rw[M0 j hj]
theorem a0e(h:aq7 md l n=true){i:Nat}(hi:i<n){K:Act→Prop}{a:Act}(hq:qOp P (l.take n).toArray C i K a):qOp P l.toArray C i K a:=by
 unfold qOp at*;rw[M0 i hi]at hq;cases ho:l.toArray[i]? with
 |none=>simpa [ho]using hq
 |some o=>
  simp only[ho]at hq ⊢;rw[a2f h hi (by simpa using ho)]at hq;exact hq
theorem Qx(L:Array Bool)(m i:Nat)(d:Bool)(hi:i<L.size):(L++Array.replicate m false).getD i d=L.getD i d:=by
 simp[hi,Array.getElem?_append]
theorem az2(L:Array Bool)(m j:Nat)(h:(L++Array.replicate m false).getD j false=true):L.getD j false=true:=by
 by_cases hj:j<L.size
 ·rwa[Qx _ _ _ _ hj]at h
 ·simp only[Array.getD_eq_getD_getElem?,Array.getElem?_append,if_neg hj]at h;by_cases h2:j - L.size<m
  ·simp[h2]at h
  ·simp[h2]at h
theorem P5(L:Array Bool)(i j:Nat)(h:L.getD j false=true):(L.setIfInBounds i true).getD j false=true:=by
 simp only[Array.getD_eq_getD_getElem?,Array.getElem?_setIfInBounds]at*;by_cases e:i=j
 ·subst e;by_cases hi:i<L.size
  ·simp[hi]
  ·simp[hi]at h
 ·simpa [e]using h
theorem QH(L:Array Bool)(i j:Nat)(e:i≠j)(h:(L.setIfInBounds i true).getD j false=true):L.getD j false=true:=by
 simp only[Array.getD_eq_getD_getElem?,Array.getElem?_setIfInBounds]at*
 simpa [e]using h
theorem ax7(L:Array Bool)(m i:Nat)(hi:i<L.size):(L++Array.replicate m false).setIfInBounds i true=L.setIfInBounds i true++Array.replicate m false:=by
 apply Array.ext_getElem?;intro k;simp only[Array.getElem?_setIfInBounds,Array.getElem?_append,Array.size_append,Array.size_setIfInBounds,Array.size_replicate];by_cases hk:i=k
 ·subst hk;simp[hi];omega
 ·simp[hk]
theorem at3(hb:aq7 md l n=true)(hn:n≤l.length)(L:Array Bool)(hL:L.size=n)(i:Nat)(hi:L.getD i true=false):
  ∃k,k∈Region.ready md (l.take n).toArray L:=by
 induction i using Nat.strongRecOn with
 |_ i ih=>
  have hin:i<n:=by
   rcases Nat.lt_or_ge i L.size with h|h
   ·omega
   ·simp[Array.getElem?_eq_none h]at hi
  have hil:i<l.length:=om0;have ho:l[i]?=some l[i]:=List.getElem?_eq_getElem hil;by_cases hall:∀e∈l[i].after,Region.binds md e=true→L.getD e.on false=true
  ·exact⟨i,mem_ready.2 ⟨hi,l[i],by rw[M0 i hin];simp,hall⟩⟩
  ·obtain⟨e,he,hbd,hcond⟩:∃e,e∈l[i].after∧Region.binds md e=true∧L.getD e.on false=false:=by
    apply Classical.byContradiction;intro hne;apply hall;intro e he hbd;cases hg:L.getD e.on false with
    |true=>rfl
    |false=>exact absurd ⟨e,he,hbd,hg⟩ hne
   have hlt:=(T6 hb hin ho).1 e he hbd;exact ih e.on hlt (getD_in om0 hcond)
theorem a6H{Q:Exit→Act→World→Prop}(hb:aq7 md l n=true)(hw:a7X md l n=true)(hn:n≤l.length)
  (hs:Region.seqB md l.toArray (l.length - n) n (Array.replicate n true++Array.replicate (l.length - n) false)=true):
  ∀(f:Nat) (L:Array Bool) (a:Act) (w:World),L.size=n→L.count false=f→a56 md l.toArray n L→C w→
   wpAnyQ P md (l.take n).toArray C (fun a'=>∀w',C w'→wpList P l.toArray Q (l.drop n) a' w') f L a→
   wpAny P md l.toArray Q (f+(l.length - n)) (L++Array.replicate (l.length - n) false) a w:=by
 intro f
 induction f with
 |zero=>
  intro L a w hL hc hS hC h;have e:L=Array.replicate n true:=by
   apply Array.ext (by simpa using hL);intro i h1 h2;simp only[Array.getElem_replicate];cases hv:L[i]with
   |true=>rfl
   |false=>exact absurd (hv▸Array.getElem_mem h1) (Array.count_eq_zero.1 hc)
  rw[e,Nat.zero_add];have hd:(l.drop n).length=l.length - n:=by simp
  have:=wpAny_of_seq (P:=P) (md:=md) (ops:=l.toArray) (Q':=Q) (l.drop n) n (Array.replicate n true++Array.replicate (l.length - n) false) a w (fun j=>by simp[List.getElem?_drop]) (by rw[hd];exact hs) (h.2 w hC);rwa[hd]at this
 |succ f ih=>
  intro L a w hL hc hS hC h;rw[show f+1+(l.length - n)=(f+(l.length - n))+1 by omega];have hex:∃i,L.getD i true=false:=by
   have:0<L.count false:=om0;obtain⟨i,h1,h2⟩:=Array.mem_iff_getElem.1 (Array.count_pos_iff.1 this);exact⟨i,by simp[h1,h2]⟩
  obtain⟨u,hu⟩:=hex;obtain⟨k,hk⟩:=at3 (md:=md) hb hn L hL u hu;have part:∀i,i∈Region.ready md l.toArray (L++Array.replicate (l.length - n) false)→i<n∧i∈Region.ready md (l.take n).toArray L:=by
   intro i hi;obtain⟨h1,o,ho,h2⟩:=mem_ready.1 hi;have hil:i<l.length:=by
    have:=(Array.getElem?_eq_some_iff.1 ho).1
    simpa using this
   by_cases hin:i<n
   ·refine⟨hin,mem_ready.2 ⟨by rw[Qx _ _ _ _ om0]at h1;exact h1,o,by rw[M0 i hin];exact ho,fun e he hbd=>?_⟩⟩;have hlt:=(T6 hb hin (by simpa using ho)).1 e he hbd;have:=h2 e he hbd;rwa[Qx _ _ _ _ om0]at this
   ·have hun:u<n:=by
     rcases Nat.lt_or_ge u L.size with h|h
     ·omega
     ·simp[Array.getElem?_eq_none h]at hu
    have h3:=J3 hS 2 i u (fun j hj=>by
     obtain⟨o',ho',e,he,hbd,hon⟩:=Region.waitsFor_spec hj;have:o'=o:=Option.some.inj (ho'.symm.trans ho);subst this;have h3:=h2 e he hbd;rw[hon]at h3;exact az2 _ _ _ h3) (a4v hw om0 hil hun)
    rw[getD_both hu]at h3;cases h3
  have hkn:k<n:=by
   obtain⟨h1,o,ho,_⟩:=mem_ready.1 hk;have:=(Array.getElem?_eq_some_iff.1 ho).1;simp at this;omega
  have back:k∈Region.ready md l.toArray (L++Array.replicate (l.length - n) false):=by
   obtain⟨h1,o,ho,h2⟩:=mem_ready.1 hk;rw[M0 k hkn]at ho;refine mem_ready.2 ⟨by rw[Qx _ _ _ _ om0];exact h1,o,ho,fun e he hbd=>?_⟩;have hlt:=(T6 hb hkn (by simpa using ho)).1 e he hbd;rw[Qx _ _ _ _ om0];exact h2 e he hbd
  refine⟨fun h0=>(by rw[h0]at back;cases back),fun i hi=>?_⟩;obtain⟨hin,hr⟩:=part i hi;have hun:=(mem_ready.1 hr).1;refine wpOp_of_qOp hC (fun a' w' hC' hk'=>?_) (a0e hb hin (h.2 i hr));rw[ax7 _ _ _ om0];refine ih _ a' w' (by simpa using hL) ?_ ?_ hC' hk';rotate_left
  ·intro j k hj hlj hwt;by_cases e:i=j
   ·subst e;obtain⟨_,o,ho,h2⟩:=mem_ready.1 hr;obtain⟨o',ho',e,he,hbd,hon⟩:=Region.waitsFor_spec hwt;rw[M0 i hin]at ho;have:o'=o:=Option.some.inj (ho'.symm.trans ho);subst this;have h3:=h2 e he hbd;rw[hon]at h3;exact P5 _ _ _ h3
   ·exact P5 _ _ _ (hS j k hj (QH _ _ _ e hlj) hwt)
  have hiL:i<L.size:=om0;have hLi:L[i]=false:=by simpa [hiL]using hun
  rw[Array.setIfInBounds_def,dif_pos hiL,Array.count_set];simp[hLi,hc]
def a8I (l:List Oper) (n:Nat):Bool:=
 decide (n≤l.length)&&Region.lexB .any (l.take n).toArray&&aq7 .any l n&&a7X .any l n&&
  Region.seqB .any l.toArray (l.length - n) n (Array.replicate n true++Array.replicate (l.length - n) false)
theorem aj4{id:Nat}{Q:Exit→Act→World→Prop}{a:Act}{w:World}(n:Nat)(hm:P.follows .mixedOrders=true)(hB:a8I l n=true)
  (h:wpQuiet P (l.take n).toArray (fun w'=>∃x,w'=plus w x) (fun a'=>∀w',(∃x,w'=plus w x)→wpList P l.toArray Q (l.drop n) a' w') (l.take n) a):
  (Code.region id l.toArray true).wp P Q a w:=by
 simp only[a8I,Bool.and_eq_true,decide_eq_true_eq]at hB;obtain⟨⟨⟨⟨hn,hlex⟩,hb⟩,hw⟩,hs⟩:=hB;simp only[Region.lexB,Bool.and_eq_true]at hlex;have hsz:(l.take n).toArray.size=n:=by simp;omega
 have hlen:(l.take n).length=n:=by simp;omega
 have h1:=wpAnyQ_lex (P:=P) (md:=.any) (C:=fun w'=>∃x,w'=plus w x) (Q:=fun a'=>∀w',(∃x,w'=plus w x)→wpList P l.toArray Q (l.drop n) a' w') hlex.1 (l.take n) 0
  (Array.replicate n false) a (by simp) (by rw[hlen];have:=hlex.2;rwa[hsz]at this) h
 rw[hlen]at h1;refine wp_region_any hm ?_;have h2:=a6H (Q:=Q) hb hw hn hs n (Array.replicate n false) a {w with drawn:=w.drawn+1} (by simp) (by simp) (fun j i _ hj _=>by by_cases h:j<n<;>simp[h]at hj) ⟨[⟨#[],w.drawn+1⟩],by simp[plus,blocks,draws]⟩ h1;have e1:n+(l.length - n)=l.toArray.size:=by simp;omega
 have e2:Array.replicate n false++Array.replicate (l.length - n) false=Array.replicate l.toArray.size false:=by
  rw[Array.replicate_append_replicate,e1]
 rw[e1,e2]at h2;exact h2
end
end
section
open Go.RowKit
section
variable {P:Program} {md:Region.Mode} {ops:Array Oper} {Q:Exit→Act→World→Prop}
def QD (L:Array Bool):List Nat:=(List.range L.size).filter fun i=> !(L.getD i true)
theorem ak1{L:Array Bool}{i:Nat}(h:L.getD i true=false):(QD (L.setIfInBounds i true)).length<(QD L).length:=by
 have hi:i<L.size:=by
  rcases Nat.lt_or_ge i L.size with h'|h'
  ·exact h'
  ·simp[Array.getElem?_eq_none h']at h
 have e:QD (L.setIfInBounds i true)=(QD L).filter (fun j=>decide (j≠i)):=by
  unfold QD;rw[List.filter_filter,Array.size_setIfInBounds];apply List.filter_congr;intro j _;by_cases hj:i=j
  ·subst hj;simp[hi]
  ·have hj':¬j=i:=fun e=>hj e.symm
   simp[hj,hj']
 rw[e,List.length_filter_lt_length_iff_exists];refine⟨i,?_,by simp⟩;unfold QD;rw[List.mem_filter];exact⟨List.mem_range.2 hi,by rw[h];rfl⟩
theorem a0u{I:Array Bool→Act→World→Prop}(hstep:∀L a w i,I L a w→i∈Region.ready md ops L→wpOp P ops Q i (fun a' w'=>I (L.setIfInBounds i true) a' w') a w)
  (hend:∀L a w,I L a w→Region.ready md ops L=[]→Q .normal a w):
  ∀(fuel:Nat) (L:Array Bool) (a:Act) (w:World),(QD L).length≤fuel→I L a w→wpAny P md ops Q fuel L a w:=by
 intro fuel
 induction fuel with
 |zero=>
  intro L a w hf h;have hr:Region.ready md ops L=[]:=by
   apply List.eq_nil_iff_forall_not_mem.2;intro j hj;have hj':=(mem_ready.1 hj).1;have hlt:=ak1 hj';omega
  exact⟨hr,hend _ _ _ h hr⟩
 |succ fuel ih=>
  intro L a w hf h;refine⟨fun h0=>hend _ _ _ h h0,fun i hi=>wpOp_mono (fun a' w' h'=>ih _ a' w' ?_ h') (hstep _ _ _ _ h hi)⟩;have:=ak1 (mem_ready.1 hi).1;omega
def got (a:Act) (s:Nat):Value:=a.tmps.getD s undef
def upd (t:Nat→Value) (d:Option Tmp) (v:Value) (s:Nat):Value:=if d=some s then v else t s
theorem a4T{a:Act}{d:Option Tmp}{v:Value}(h:∀s,d=some s→s<a.tmps.size):got (a.put d v)=upd (got a) d v:=by
 funext s;unfold got upd Act.put;cases d with
 |none=>simp
 |some d0=>
  have:=h d0 rfl;by_cases e:d0=s
  ·subst e;simp[this]
  ·simp[e]
def zh (t:Nat→Value):List Oper→Act→Act
 |[],a=>a
 |o::r,a=>zh t r (match o.dst with|some d=>a.put (some d) (t d)|none=>a)
theorem X4(t:Nat→Value):∀(l:List Oper) (a:Act),(zh t l a).tmps.size=a.tmps.size∧(zh t l a).defers=a.defers
 |[],a=>⟨rfl,rfl⟩
 |o::r,a=>by
  unfold zh;have h:=X4 t r (match o.dst with|some d=>a.put (some d) (t d)|none=>a);rw[h.1,h.2];cases o.dst<;>simp[Act.put]
theorem Zs(t:Nat→Value)(s:Nat):∀(l:List Oper) (a:Act),s<a.tmps.size→got (zh t l a) s=if (l.any fun o=>o.dst==some s)then t s else got a s
 |[],a,_=>by simp[zh]
 |o::r,a,hs=>by
  unfold zh;rw[Zs t s r _ (by cases o.dst<;>simpa [Act.put]using hs)];cases hd:o.dst with
  |none=>simp[hd]
  |some d=>
   by_cases e:d=s
   ·subst e;simp[hd,got,Act.put,hs]
   ·simp[hd,e,got,Act.put]
theorem a2r{a b:Act}(hs:a.tmps.size=b.tmps.size)(hd:a.defers=b.defers)(h:∀s,s<a.tmps.size→got a s=got b s):a=b:=by
 obtain⟨at',ad⟩:=a;obtain⟨bt,bd⟩:=b;simp only at hs hd;subst hd
 congr 1
 apply Array.ext hs;intro i h1 h2;have:=h i h1
 simpa [got,h1,h2]using this
def a95 (md:Region.Mode) (ops:Array Oper) (n:Nat) (S:Nat→List Nat) (m:Nat):Bool:=
 (List.range ops.size).all fun i=>match ops[i]? with
  |none=>true
  |some o=>o.guard.isNone&&o.after.all (fun e=>!Region.binds md e||decide (e.on<i))&&(match o.dst with|some d=>decide (d<m)|none=>true)&&
   (if i<n then(List.range ops.size).all fun j=>i==j||(match (ops[j]?).bind (·.dst)with|some d=> !((S i).contains d)||N5 md ops n 8 i j|none=>true)
   else(List.range n).all fun j=>N5 md ops n 8 i j)
structure a0a (md:Region.Mode) (ops:Array Oper) (n:Nat) (S:Nat→List Nat) (m:Nat):Prop where
 guard:∀(i:Nat) (o:Oper),ops[i]?=some o→o.guard=none
 back:∀(i:Nat) (o:Oper),ops[i]?=some o→∀e∈o.after,Region.binds md e=true→e.on<i
 slot:∀(i:Nat) (o:Oper),ops[i]?=some o→∀d,o.dst=some d→d<m
 late:∀(i j:Nat) (o:Oper) (d:Nat),i<n→i<ops.size→ops[j]?=some o→o.dst=some d→d∈S i→i≠j→N5 md ops n 8 i j=true
 last:∀(i j:Nat),n≤i→i<ops.size→j<n→N5 md ops n 8 i j=true
theorem a3Z{n m:Nat}{S:Nat→List Nat}(h:a95 md ops n S m=true):a0a md ops n S m:=by
 have key:∀(i:Nat) (o:Oper),ops[i]?=some o→(((o.guard.isNone=true∧o.after.all (fun e=>!Region.binds md e||decide (e.on<i))=true)∧(match o.dst with|some d=>decide (d<m)|none=>true)=true)∧
   (if i<n then(List.range ops.size).all fun j=>i==j||(match (ops[j]?).bind (·.dst)with|some d=> !((S i).contains d)||N5 md ops n 8 i j|none=>true)
   else(List.range n).all fun j=>N5 md ops n 8 i j)=true):=by
  intro i o ho;have hi:i<ops.size:=(Array.getElem?_eq_some_iff.1 ho).1;have h1:=List.all_eq_true.1 h i (List.mem_range.2 hi);simp only[ho,Bool.and_eq_true]at h1;exact h1
 refine⟨fun i o ho=>?_,fun i o ho e he hb=>?_,fun i o ho d hd=>?_,fun i j o d hin hi ho hd hS hij=>?_,fun i j hin hi hj=>?_⟩
 ·have:=(key i o ho).1.1.1
  simpa using this
 ·have:=Array.all_eq_true'.1 (key i o ho).1.1.2 e he
  simpa [hb]using this
 ·have:=(key i o ho).1.2;rw[hd]at this
  simpa using this
 ·have h2:=(key i _ (Array.getElem?_eq_getElem hi)).2;rw[if_pos hin]at h2;have hj:j<ops.size:=(Array.getElem?_eq_some_iff.1 ho).1;have h3:=List.all_eq_true.1 h2 j (List.mem_range.2 hj);simp only[ho,Option.bind_some,hd,Bool.or_eq_true,beq_iff_eq]at h3;rcases h3 with h3|h3|h3
  ·exact absurd h3 hij
  ·simp[hS]at h3
  ·exact h3
 ·have h2:=(key i _ (Array.getElem?_eq_getElem hi)).2;rw[if_neg om0]at h2;exact List.all_eq_true.1 h2 j (List.mem_range.2 hj)
variable {n:Nat} {S:Nat→List Nat} {Φ:Nat→(Nat→Value)→World→Prop} {a0:Act} {w0:World}
structure a3e (md:Region.Mode) (ops:Array Oper) (n:Nat) (Φ:Nat→(Nat→Value)→World→Prop) (a0:Act) (w0:World) (L:Array Bool) (a:Act) (w:World):Prop where
 size:L.size=ops.size
 tsz:a.tmps.size=a0.tmps.size
 dfs:a.defers=a0.defers
 free:∀s,(∀(j:Nat) (o:Oper),ops[j]?=some o→L.getD j false=true→o.dst≠some s)→got a s=got a0 s
 grow:∃x,w=plus w0 x
 rel:∀i,L.getD i false=true→Φ i (got a) w
 shut:∀i k,L.getD i false=true→Region.waitsFor md ops i k=true→L.getD k false=true
 front:∀i,n≤i→L.getD i false=false
theorem af4{L:Array Bool}{i:Nat}(h:L.getD i true=false):L.getD i false=false∧i<L.size:=by
 rcases Nat.lt_or_ge i L.size with h'|h'
 ·simp[h']at h ⊢;exact h
 ·simp[Array.getElem?_eq_none h']at h
theorem a3U(hF:a0a md ops n S a0.tmps.size){L:Array Bool}(hs:L.size=ops.size)(hr:Region.ready md ops L=[]):∀i,i<ops.size→L.getD i false=true:=by
 intro i
 induction i using Nat.strongRecOn with
 |_ i ih=>
  intro hi;cases hL:L.getD i false with
  |true=>rfl
  |false=>
   exfalso;have ho:ops[i]?=some ops[i]:=Array.getElem?_eq_getElem hi;have hmem:i∈Region.ready md ops L:=mem_ready.2 ⟨by simp[hs,hi]at hL ⊢;exact hL,_,ho,fun e he hb=>by
    have hlt:=hF.back i _ ho e he hb;exact ih e.on hlt om0⟩
   rw[hr]at hmem;cases hmem
theorem aj6{L:Array Bool}{i:Nat}(hi:i∈Region.ready md ops L){k:Nat}(hk:Region.waitsFor md ops i k=true):L.getD k false=true:=by
 obtain⟨_,o,ho,hall⟩:=mem_ready.1 hi;obtain⟨oj,ho2,e,he,hb,hon⟩:=Region.waitsFor_spec hk;rw[ho]at ho2;cases ho2;exact hon▸hall e he hb
theorem a5L(hF:a0a md ops n S a0.tmps.size)(hmono:∀i t t' w x,Φ i t w→(∀s∈S i,t' s=t s)→Φ i t' (plus w x)){L:Array Bool}{a a':Act}{w w':World}{i:Nat}{o:Oper}{v:Value}
  (h:a3e md ops n Φ a0 w0 L a w) (hi:i∈Region.ready md ops L) (hin:i<n) (ho:ops[i]?=some o) (ha:a'=a.put o.dst v) (hw:∃x,w'=plus w x) (hΦ:Φ i (upd (got a) o.dst v) w'):
  a3e md ops n Φ a0 w0 (L.setIfInBounds i true) a' w':=by
 obtain⟨hiL,hiS⟩:=af4 (mem_ready.1 hi).1;have hgp:got a'=upd (got a) o.dst v:=by
  rw[ha];exact a4T fun s hs=>by rw[h.tsz];exact hF.slot i o ho s hs
 have hS:a56 md ops n L:=fun j k _ hj hk=>h.shut j k hj hk
 have hset:∀j,(L.setIfInBounds i true).getD j false=true→j=i∨L.getD j false=true:=by
  intro j hj;by_cases e:i=j
  ·exact .inl e.symm
  ·exact .inr (QH L i j e hj)
 have hdeep:∀j,N5 md ops n 8 j i=true→L.getD j false=true→False:=by
  intro j hd hj;have:=J3 hS 8 j i (fun k hk=>h.shut j k hj hk) hd;rw[hiL]at this;cases this
 obtain⟨x,rfl⟩:=hw;refine⟨by rw[Array.size_setIfInBounds];exact h.size,?_,?_,?_,zt h.grow,?_,?_,?_⟩
 ·rw[ha,←h.tsz];cases o.dst<;>simp[Act.put]
 ·rw[ha,←h.dfs];cases o.dst<;>simp[Act.put]
 ·intro s hs;have h1:o.dst≠some s:=hs i o ho (by simp[hiS]);rw[hgp];unfold upd;rw[if_neg h1];exact h.free s fun j oj hj hL=>hs j oj hj (P5 L i j hL)
 ·intro j hj;rcases hset j hj with rfl|hj'
  ·rw[hgp];exact hΦ
  ·by_cases e:j=i
   ·subst e;rw[hgp];exact hΦ
   refine hmono j (got a) (got a') w x (h.rel j hj') fun s hs=>?_
   rw[hgp];unfold upd;by_cases hd:o.dst=some s
   ·exfalso;have hjn:j<n:=by
     rcases Nat.lt_or_ge j n with h'|h'
     ·exact h'
     ·rw[h.front j h']at hj';cases hj'
    have hjs:j<ops.size:=by
     rw[←h.size];rcases Nat.lt_or_ge j L.size with h'|h'
     ·exact h'
     ·simp[Array.getElem?_eq_none h']at hj'
    exact hdeep j (hF.late j i o s hjn hjs ho hd hs e) hj'
   ·rw[if_neg hd]
 ·intro j k hj hk;rcases hset j hj with rfl|hj'
  ·exact P5 L _ k (aj6 hi hk)
  ·exact P5 L i k (h.shut j k hj' hk)
 ·intro j hj;have e:i≠j:=om0;have h1:=h.front j hj;cases h2:(L.setIfInBounds i true).getD j false with
  |false=>rfl
  |true=>rw[QH L i j e h2]at h1;cases h1
def a74 (P:Program) (md:Region.Mode) (ops:Array Oper) (n:Nat) (Φ:Nat→(Nat→Value)→World→Prop) (a0:Act) (w0:World) (Q:Exit→Act→World→Prop):List Oper→Nat→Prop
 |[],_=>True
 |o::r,i=>(∀a w,(∃x,w=plus w0 x)→(∀s,(ops.any fun o=>o.dst==some s)=false→got a s=got a0 s)→(∀j,N5 md ops n 8 i j=true→Φ j (got a) w)→
   o.wp P a w (fun a' w'=>∃v,a'=a.put o.dst v∧(∃x,w'=plus w x)∧Φ i (upd (got a) o.dst v) w') Q)∧a74 P md ops n Φ a0 w0 Q r (i+1)
theorem a3b:∀(l:List Oper) (k:Nat),a74 P md ops n Φ a0 w0 Q l k→∀(i:Nat) (o:Oper),l[i]?=some o→∀a w,(∃x,w=plus w0 x)→(∀s,(ops.any fun o=>o.dst==some s)=false→got a s=got a0 s)→(∀j,N5 md ops n 8 (k+i) j=true→Φ j (got a) w)→
   o.wp P a w (fun a' w'=>∃v,a'=a.put o.dst v∧(∃x,w'=plus w x)∧Φ (k+i) (upd (got a) o.dst v) w') Q
 |[],_,_,i,o,ho=>by simp at ho
 |o::r,k,h,0,o',ho=>by
  simp only[List.getElem?_cons_zero,Option.some.injEq]at ho;subst ho;exact h.1
 |o::r,k,h,i+1,o',ho=>by
  have:=a3b r (k+1) h.2 i o' (by simpa using ho);rwa[show k+1+i=k+(i+1)by omega]at this
theorem a8r{a:Act}{L:Array Bool}{w:World}(h:a3e md ops n Φ a0 w0 L a w):∀s,(ops.any fun o=>o.dst==some s)=false→got a s=got a0 s:=by
 intro s hs;refine h.free s fun j o ho _ hd=>?_
 have:(ops.any fun o=>o.dst==some s)=true:=by
  rw[Array.any_eq_true'];exact⟨o,Array.mem_of_getElem? ho,by simp[hd]⟩
 rw[hs]at this;cases this
theorem M6{id:Nat}{l:List Oper}(n:Nat)(S:Nat→List Nat)(Φ:Nat→(Nat→Value)→World→Prop){a:Act}{w:World}(hm:P.follows .mixedOrders=true)(hB:a95 .any l.toArray n S a.tmps.size=true)(hn:l.length=n+1)
  (hmono:∀i t t' w x,Φ i t w→(∀s∈S i,t' s=t s)→Φ i t' (plus w x))
  (hst:a74 P .any l.toArray n Φ a w Q (l.take n) 0)
  (hend:∀t w',(∃x,w'=plus w x)→(∀j,j<n→Φ j t w')→∀o,l[n]?=some o→o.wp P (zh t (l.take n) a) w' (fun a' w''=>Q .normal a' w'') Q):(Code.region id l.toArray true).wp P Q a w:=by
 have hF:=a3Z hB;refine wp_region_any hm ?_;refine a0u (I:=fun L a' w'=>a3e .any l.toArray n Φ a w L a' w'∨(Region.ready .any l.toArray L=[]∧Q .normal a' w')) ?_ ?_ _ _ _ _ ?_ ?_
 ·rintro L a' w' i (h|⟨h,_⟩) hi
  ·obtain⟨hiL,o,ho,hall⟩:=mem_ready.1 hi;obtain⟨hiL2,hiS⟩:=af4 hiL;have hsz:i<n+1:=by rw[←hn];simpa using(Array.getElem?_eq_some_iff.1 ho).1
   have hS:a56 .any l.toArray n L:=fun j k _ hj hk=>h.shut j k hj hk
   have hdl:∀j,N5 .any l.toArray n 8 i j=true→L.getD j false=true:=fun j hd=>J3 hS 8 i j (fun k hk=>aj6 hi hk) hd
   unfold wpOp;simp only[ho];have hwt:Region.wanted o (yielded l.toArray a'.tmps)=true:=by simp[Region.wanted,hF.guard i o ho]
   rw[if_pos hwt];left;by_cases hin:i<n
   ·have hol:(l.take n)[i]?=some o:=by rw[List.getElem?_take,if_pos hin];simpa using ho
    have hw:=a3b (l.take n) 0 hst i o hol a' w' h.grow (a8r h) (fun j hd=>h.rel j (hdl j (by rwa[Nat.zero_add]at hd)));rw[Nat.zero_add]at hw;exact Oper.wp_mono (fun a2 w2 ⟨v,e1,e2,e3⟩=>.inl (a5L hF hmono h hi hin ho e1 e2 e3)) hw
   ·obtain rfl:i=n:=om0;have hall2:∀j,j<i→L.getD j false=true:=fun j hj=>hdl j (hF.last i j (Nat.le_refl _) (by simp;omega) hj)
    have ha:a'=zh (got a') (l.take i) a:=by
     have hp:=X4 (got a') (l.take i) a;refine a2r (h.tsz.trans hp.1.symm) (h.dfs.trans hp.2.symm) fun s hs=>?_
     rw[Zs _ _ _ _ (by rw[←h.tsz];exact hs)];cases hany:(l.take i).any fun o=>o.dst==some s with
     |true=>simp
     |false=>
      simp only[Bool.false_eq_true,if_false];refine h.free s fun j oj hj hL hd=>?_
      have hjn:j<i:=by
       rcases Nat.lt_or_ge j i with h'|h'
       ·exact h'
       ·rw[h.front j h']at hL;cases hL
      have:((l.take i).any fun o=>o.dst==some s)=true:=List.any_eq_true.2 ⟨oj,List.mem_of_getElem? (i:=j) (by rw[List.getElem?_take,if_pos hjn];simpa using hj),by simp[hd]⟩;rw[hany]at this;cases this
    have hE:=hend (got a') w' h.grow (fun j hj=>h.rel j (hall2 j hj)) o (by simpa using ho);rw[←ha]at hE;refine Oper.wp_mono (fun a2 w2 hq=>.inr ⟨?_,hq⟩) hE;apply List.eq_nil_iff_forall_not_mem.2;intro j hj;obtain⟨hj1,oj,hoj,_⟩:=mem_ready.1 hj;have hj2:=af4 hj1;have hjs:j<i+1:=by rw[←hn];simpa using(Array.getElem?_eq_some_iff.1 hoj).1
    by_cases e:j=i
    ·subst e;simp[hiS]at hj1
    ·have:=P5 L i j (hall2 j om0);rw[hj2.1]at this;cases this
  ·rw[h]at hi;cases hi
 ·rintro L a' w' (h|⟨_,h⟩) hr
  ·have:=a3U hF h.size hr n (by simp;omega);rw[h.front n (Nat.le_refl _)]at this;cases this
  ·exact h
 ·unfold QD;exact Nat.le_trans (List.length_filter_le _ _) (by simp)
 ·left;refine⟨by simp,rfl,rfl,fun s _=>rfl,⟨[⟨#[],w.drawn+1⟩],by simp[plus,blocks,draws]⟩,?_,?_,?_⟩
  ·intro i hi;by_cases hl:i<l.length<;>simp[hl]at hi
  ·intro i k hi;by_cases hl:i<l.length<;>simp[hl]at hi
  ·intro i _;by_cases hl:i<l.length<;>simp[hl]
end
end
section
open Go.RowKit
set_option linter.unusedVariables false
section
variable {P:Program} {md:Region.Mode} {ops:Array Oper} {Q:Exit→Act→World→Prop}
def a3G (md:Region.Mode) (ops:Array Oper) (n:Nat) (S:Nat→List Nat) (m:Nat):Bool:=
 (List.range ops.size).all fun i=>match ops[i]? with
  |none=>true
  |some o=>o.guard.isNone&&o.after.all (fun e=>!Region.binds md e||decide (e.on<i))&&(match o.dst with|some d=>decide (d<m)|none=>true)&&
   (if i<n then(List.range ops.size).all fun j=>i==j||(match (ops[j]?).bind (·.dst)with|some d=> !((S i).contains d)||N5 md ops ops.size 8 i j|none=>true)
   else(List.range i).all fun j=>N5 md ops ops.size 8 i j)
structure ao9 (md:Region.Mode) (ops:Array Oper) (n:Nat) (S:Nat→List Nat) (m:Nat):Prop where
 guard:∀(i:Nat) (o:Oper),ops[i]?=some o→o.guard=none
 back:∀(i:Nat) (o:Oper),ops[i]?=some o→∀e∈o.after,Region.binds md e=true→e.on<i
 slot:∀(i:Nat) (o:Oper),ops[i]?=some o→∀d,o.dst=some d→d<m
 late:∀(i j:Nat) (o:Oper) (d:Nat),i<n→i<ops.size→ops[j]?=some o→o.dst=some d→d∈S i→i≠j→N5 md ops ops.size 8 i j=true
 last:∀(i j:Nat),n≤i→i<ops.size→j<i→N5 md ops ops.size 8 i j=true
theorem a2g{n m:Nat}{S:Nat→List Nat}(h:a3G md ops n S m=true):ao9 md ops n S m:=by
 have key:∀(i:Nat) (o:Oper),ops[i]?=some o→(((o.guard.isNone=true∧o.after.all (fun e=>!Region.binds md e||decide (e.on<i))=true)∧(match o.dst with|some d=>decide (d<m)|none=>true)=true)∧
   (if i<n then(List.range ops.size).all fun j=>i==j||(match (ops[j]?).bind (·.dst)with|some d=> !((S i).contains d)||N5 md ops ops.size 8 i j|none=>true)
   else(List.range i).all fun j=>N5 md ops ops.size 8 i j)=true):=by
  intro i o ho;have hi:i<ops.size:=(Array.getElem?_eq_some_iff.1 ho).1;have h1:=List.all_eq_true.1 h i (List.mem_range.2 hi);simp only[ho,Bool.and_eq_true]at h1;exact h1
 refine⟨fun i o ho=>?_,fun i o ho e he hb=>?_,fun i o ho d hd=>?_,fun i j o d hin hi ho hd hS hij=>?_,fun i j hin hi hj=>?_⟩
 ·have:=(key i o ho).1.1.1
  simpa using this
 ·have:=Array.all_eq_true'.1 (key i o ho).1.1.2 e he
  simpa [hb]using this
 ·have:=(key i o ho).1.2;rw[hd]at this
  simpa using this
 ·have h2:=(key i _ (Array.getElem?_eq_getElem hi)).2;rw[if_pos hin]at h2;have hj:j<ops.size:=(Array.getElem?_eq_some_iff.1 ho).1;have h3:=List.all_eq_true.1 h2 j (List.mem_range.2 hj);simp only[ho,Option.bind_some,hd,Bool.or_eq_true,beq_iff_eq]at h3;rcases h3 with h3|h3|h3
  ·exact absurd h3 hij
  ·simp[hS]at h3
  ·exact h3
 ·have h2:=(key i _ (Array.getElem?_eq_getElem hi)).2;rw[if_neg om0]at h2;exact List.all_eq_true.1 h2 j (List.mem_range.2 hj)
variable {n:Nat} {S:Nat→List Nat} {a0:Act} {w0:World}
theorem ZC{L:Array Bool}{i:Nat}(h:L.getD i true=false):L.getD i false=false∧i<L.size:=by
 rcases Nat.lt_or_ge i L.size with h'|h'
 ·simp[h']at h ⊢;exact h
 ·simp[Array.getElem?_eq_none h']at h
theorem an3(hF:ao9 md ops n S a0.tmps.size){L:Array Bool}(hs:L.size=ops.size)(hr:Region.ready md ops L=[]):∀i,i<ops.size→L.getD i false=true:=by
 intro i
 induction i using Nat.strongRecOn with
 |_ i ih=>
  intro hi;cases hL:L.getD i false with
  |true=>rfl
  |false=>
   exfalso;have ho:ops[i]?=some ops[i]:=Array.getElem?_eq_getElem hi;have hmem:i∈Region.ready md ops L:=mem_ready.2 ⟨by simp[hs,hi]at hL ⊢;exact hL,_,ho,fun e he hb=>by
    have hlt:=hF.back i _ ho e he hb;exact ih e.on hlt om0⟩
   rw[hr]at hmem;cases hmem
theorem R2{L:Array Bool}{i:Nat}(hi:i∈Region.ready md ops L){k:Nat}(hk:Region.waitsFor md ops i k=true):L.getD k false=true:=by
 obtain⟨_,o,ho,hall⟩:=mem_ready.1 hi;obtain⟨oj,ho2,e,he,hb,hon⟩:=Region.waitsFor_spec hk;rw[ho]at ho2;cases ho2;exact hon▸hall e he hb
variable {Φ:Nat→(Nat→Value)→(Nat→Bool)→World→Prop} {G:(Nat→Bool)→World→(Nat→Bool)→World→Prop}
def dn (L:Array Bool) (j:Nat):Bool:=L.getD j false
def aq6 (D:Nat→Bool) (i:Nat) (j:Nat):Bool:=D j||j==i
def F8 (_:Nat):Bool:=false
theorem a7P{L:Array Bool}{i:Nat}(hi:i<L.size):dn (L.setIfInBounds i true)=aq6 (dn L) i:=by
 funext j;unfold dn aq6;by_cases e:i=j
 ·subst e;simp[hi]
 ·have e':¬j=i:=fun h=>e h.symm
  simp[e,e']
structure an0 (G:(Nat→Bool)→World→(Nat→Bool)→World→Prop) (md:Region.Mode) (ops:Array Oper) (n:Nat) (Φ:Nat→(Nat→Value)→(Nat→Bool)→World→Prop) (a0:Act) (w0:World) (L:Array Bool) (a:Act) (w:World):Prop where
 size:L.size=ops.size
 tsz:a.tmps.size=a0.tmps.size
 dfs:a.defers=a0.defers
 free:∀s,(∀(j:Nat) (o:Oper),ops[j]?=some o→L.getD j false=true→o.dst≠some s)→got a s=got a0 s
 grow:G F8 w0 (dn L) w
 rel:∀i,L.getD i false=true→Φ i (got a) (dn L) w
 shut:∀i k,L.getD i false=true→Region.waitsFor md ops i k=true→L.getD k false=true
 front:∀i,n≤i→L.getD i false=false
theorem a4u(hG:∀D1 w1 D2 w2 D3 w3,G D1 w1 D2 w2→G D2 w2 D3 w3→G D1 w1 D3 w3)(hF:ao9 md ops n S a0.tmps.size)(hmono:∀i t t' D w D' w',Φ i t D w→(∀s∈S i,t' s=t s)→G D w D' w'→Φ i t' D' w'){L:Array Bool}{a a':Act}{w w':World}{i:Nat}{o:Oper}{v:Value}
  (h:an0 G md ops n Φ a0 w0 L a w) (hi:i∈Region.ready md ops L) (hin:i<n) (ho:ops[i]?=some o) (ha:a'=a.put o.dst v) (hw:G (dn L) w (aq6 (dn L) i) w') (hΦ:Φ i (upd (got a) o.dst v) (aq6 (dn L) i) w'):
  an0 G md ops n Φ a0 w0 (L.setIfInBounds i true) a' w':=by
 obtain⟨hiL,hiS⟩:=ZC (mem_ready.1 hi).1;rw[←a7P hiS]at hw hΦ;have hgp:got a'=upd (got a) o.dst v:=by
  rw[ha];exact a4T fun s hs=>by rw[h.tsz];exact hF.slot i o ho s hs
 have hS:a56 md ops ops.size L:=fun j k _ hj hk=>h.shut j k hj hk
 have hset:∀j,(L.setIfInBounds i true).getD j false=true→j=i∨L.getD j false=true:=by
  intro j hj;by_cases e:i=j
  ·exact .inl e.symm
  ·exact .inr (QH L i j e hj)
 have hdeep:∀j,N5 md ops ops.size 8 j i=true→L.getD j false=true→False:=by
  intro j hd hj;have:=J3 hS 8 j i (fun k hk=>h.shut j k hj hk) hd;rw[hiL]at this;cases this
 refine⟨by rw[Array.size_setIfInBounds];exact h.size,?_,?_,?_,hG _ _ _ _ _ _ h.grow hw,?_,?_,?_⟩
 ·rw[ha,←h.tsz];cases o.dst<;>simp[Act.put]
 ·rw[ha,←h.dfs];cases o.dst<;>simp[Act.put]
 ·intro s hs;have h1:o.dst≠some s:=hs i o ho (by simp[hiS]);rw[hgp];unfold upd;rw[if_neg h1];exact h.free s fun j oj hj hL=>hs j oj hj (P5 L i j hL)
 ·intro j hj;rcases hset j hj with rfl|hj'
  ·rw[hgp];exact hΦ
  ·by_cases e:j=i
   ·subst e;rw[hgp];exact hΦ
   refine hmono j (got a) (got a') _ w _ w' (h.rel j hj') (fun s hs=>?_) hw;rw[hgp];unfold upd;by_cases hd:o.dst=some s
   ·exfalso;have hjn:j<n:=by
     rcases Nat.lt_or_ge j n with h'|h'
     ·exact h'
     ·rw[h.front j h']at hj';cases hj'
    have hjs:j<ops.size:=by
     rw[←h.size];rcases Nat.lt_or_ge j L.size with h'|h'
     ·exact h'
     ·simp[Array.getElem?_eq_none h']at hj'
    exact hdeep j (hF.late j i o s hjn hjs ho hd hs e) hj'
   ·rw[if_neg hd]
 ·intro j k hj hk;rcases hset j hj with rfl|hj'
  ·exact P5 L _ k (R2 hi hk)
  ·exact P5 L i k (h.shut j k hj' hk)
 ·intro j hj;have e:i≠j:=om0;have h1:=h.front j hj;cases h2:(L.setIfInBounds i true).getD j false with
  |false=>rfl
  |true=>rw[QH L i j e h2]at h1;cases h1
def a9p (G:(Nat→Bool)→World→(Nat→Bool)→World→Prop) (P:Program) (md:Region.Mode) (ops:Array Oper) (n:Nat) (Φ:Nat→(Nat→Value)→(Nat→Bool)→World→Prop) (a0:Act) (w0:World) (Q:Exit→Act→World→Prop) (i:Nat) (o:Oper):Prop:=
 ∀a D w,G F8 w0 D w→(∀s,((ops.toList.take n).any fun o=>o.dst==some s)=false→got a s=got a0 s)→(∀j,N5 md ops ops.size 8 i j=true→Φ j (got a) D w)→D i=false→
   o.wp P a w (fun a' w'=>∃v,a'=a.put o.dst v∧G D w (aq6 D i) w'∧Φ i (upd (got a) o.dst v) (aq6 D i) w') Q
def ab3 (X:Nat→Oper→Prop):List Oper→Nat→Prop
 |[],_=>True
 |o::r,i=>X i o∧ab3 X r (i+1)
theorem a47{X:Nat→Oper→Prop}:∀(l:List Oper) (k:Nat),ab3 X l k→∀(i:Nat) (o:Oper),l[i]?=some o→X (k+i) o
 |[],_,_,i,o,ho=>by simp at ho
 |o::r,k,h,0,o',ho=>by
  simp only[List.getElem?_cons_zero,Option.some.injEq]at ho;subst ho;exact h.1
 |o::r,k,h,i+1,o',ho=>by
  have:=a47 r (k+1) h.2 i o' (by simpa using ho);rwa[show k+1+i=k+(i+1)by omega]at this
theorem T7{X Y:Nat→Oper→Prop}(h:∀i o,X i o→Y i o):∀(l:List Oper) (k:Nat),ab3 X l k→ab3 Y l k
 |[],_,_=>trivial
 |_::r,k,q=>⟨h _ _ q.1,T7 h r (k+1) q.2⟩
theorem az1{l:List Oper}{n s:Nat}(h:(l.toArray.any fun o=>o.dst==some s)=false):((l.toArray.toList.take n).any fun o=>o.dst==some s)=false:=by
 rw[List.any_eq_false];intro o ho;rw[List.any_toArray,List.any_eq_false]at h;exact h o (by simpa using List.mem_of_mem_take ho)
theorem a6N{a:Act}{L:Array Bool}{w:World}(h:an0 G md ops n Φ a0 w0 L a w):∀s,((ops.toList.take n).any fun o=>o.dst==some s)=false→got a s=got a0 s:=by
 intro s hs;refine h.free s fun j o ho hL hd=>?_
 have hjn:j<n:=by
  rcases Nat.lt_or_ge j n with h'|h'
  ·exact h'
  ·rw[h.front j h']at hL;cases hL
 have:((ops.toList.take n).any fun o=>o.dst==some s)=true:=by
  rw[List.any_eq_true];refine⟨o,?_,by simp[hd]⟩;have h2:(ops.toList.take n)[j]?=some o:=by rw[List.getElem?_take_of_lt hjn];simpa using ho
  exact List.mem_of_getElem? h2
 rw[hs]at this;cases this
theorem X0{id:Nat}{l:List Oper}(n:Nat)(S:Nat→List Nat)(Φ:Nat→(Nat→Value)→(Nat→Bool)→World→Prop){a:Act}{w:World}(G:(Nat→Bool)→World→(Nat→Bool)→World→Prop)(hG:∀D1 w1 D2 w2 D3 w3,G D1 w1 D2 w2→G D2 w2 D3 w3→G D1 w1 D3 w3)(hd:G F8 w F8 {w with drawn:=w.drawn+1})(hm:P.follows .mixedOrders=true)(hB:a3G .any l.toArray n S a.tmps.size=true)(hn:n≤l.length)
  (hmono:∀i t t' D w D' w',Φ i t D w→(∀s∈S i,t' s=t s)→G D w D' w'→Φ i t' D' w')
  (hst:ab3 (a9p G P .any l.toArray n Φ a w Q) (l.take n) 0)
  (hend:∀t D w',(∀j,j<n→D j=true)→G F8 w D w'→(∀j,j<n→Φ j t D w')→wpList P l.toArray Q (l.drop n) (zh t (l.take n) a) w'):(Code.region id l.toArray true).wp P Q a w:=by
 have hF:=a2g hB;have hsize:l.toArray.size=l.length:=by simp
 have hrest:∀t D w',(∀j,j<n→D j=true)→G F8 w D w'→(∀j,j<n→Φ j t D w')→wpOps P l.toArray Q (List.range' n (l.length - n)) (zh t (l.take n) a) w':=by
  intro t D w' h0 h1 h2;have h:=hend t D w' h0 h1 h2;have e:=wpOps_eq_wpList (P:=P) (Q:=Q) (ops:=l.toArray) (l.drop n) n (fun j=>by simp);rw[List.length_drop]at e;rw[e];exact h
 refine wp_region_any hm ?_;refine a0u (I:=fun L a' w'=>(L.size=l.length∧an0 G .any l.toArray n Φ a w L a' w')∨(L.size=l.length∧∃i,n≤i∧i≤l.length∧(∀j,L.getD j false=decide (j<i))∧wpOps P l.toArray Q (List.range' i (l.length - i)) a' w')) ?_ ?_ _ _ _ _ ?_ ?_
 ·have key:∀L a' w' i k,L.size=l.length→n≤k→k≤l.length→(∀j,L.getD j false=decide (j<k))→wpOps P l.toArray Q (List.range' k (l.length - k)) a' w'→i∈Region.ready .any l.toArray L→
    wpOp P l.toArray Q i (fun a' w'=>((L.setIfInBounds i true).size=l.length∧an0 G .any l.toArray n Φ a w (L.setIfInBounds i true) a' w')∨((L.setIfInBounds i true).size=l.length∧∃k,n≤k∧k≤l.length∧(∀j,(L.setIfInBounds i true).getD j false=decide (j<k))∧wpOps P l.toArray Q (List.range' k (l.length - k)) a' w')) a' w':=by
   intro L a' w' i k hs hnk hkl hL hw hi;obtain⟨hiL,o,ho,hall⟩:=mem_ready.1 hi;obtain⟨hiL2,hiS⟩:=ZC hiL;have hik:k≤i:=by
    rw[hL i]at hiL2
    simpa using hiL2
   obtain rfl:i=k:=by
    rcases Nat.eq_or_lt_of_le hik with e|hlt
    ·exact e.symm
    ·exfalso;have hd:=hF.last i k om0 (by simp;omega) hlt;have hS:a56 .any l.toArray l.toArray.size L:=by
      intro p q hp hp2 hq;rw[hL p]at hp2;rw[hL q];obtain⟨oj,h1,e,he,hb,hon⟩:=Region.waitsFor_spec hq;have:=hF.back p oj h1 e he hb;simp at hp2 ⊢;omega
     have:=J3 hS 8 i k (fun q hq=>R2 hi hq) hd;rw[hL k]at this;simp at this
   have e1:List.range' i (l.length - i)=i::List.range' (i+1) (l.length - (i+1)):=by
    rw[show l.length - i=(l.length - (i+1))+1 by omega,List.range'_succ]
   rw[e1,wpOps_cons]at hw;refine wpOp_mono (fun a2 w2 h2=>.inr ⟨by rw[Array.size_setIfInBounds];exact hs,i+1,om0,om0,fun j=>?_,h2⟩) hw;by_cases e:i=j
   ·subst e;simp[hiS]
   ·have h3:=hL j;have h4:(L.setIfInBounds i true).getD j false=L.getD j false:=by simp[e]
    rw[h4,h3];have:(j<i)↔(j<i+1):=om0;simp[this]
  rintro L a' w' i (⟨hs,h⟩|⟨hs,k,hnk,hkl,hL,hw⟩) hi
  ·by_cases hin:i<n
   ·obtain⟨hiL,o,ho,hall⟩:=mem_ready.1 hi;have hS:a56 .any l.toArray l.toArray.size L:=fun j k _ hj hk=>h.shut j k hj hk
    have hdl:∀j,N5 .any l.toArray l.toArray.size 8 i j=true→L.getD j false=true:=fun j hd=>J3 hS 8 i j (fun k hk=>R2 hi hk) hd
    unfold wpOp;simp only[ho];have hwt:Region.wanted o (yielded l.toArray a'.tmps)=true:=by simp[Region.wanted,hF.guard i o ho]
    rw[if_pos hwt];left;have hol:(l.take n)[i]?=some o:=by rw[List.getElem?_take,if_pos hin];simpa using ho
    have hw:=a47 (l.take n) 0 hst i o hol a' (dn L) w' h.grow (a6N h) (fun j hd=>h.rel j (hdl j (by rwa[Nat.zero_add]at hd))) (by rw[Nat.zero_add];exact(ZC hiL).1);rw[Nat.zero_add]at hw;exact Oper.wp_mono (fun a2 w2 ⟨v,e1,e2,e3⟩=>.inl ⟨by rw[Array.size_setIfInBounds];exact hs,a4u hG hF hmono h hi hin ho e1 e2 e3⟩) hw
   ·obtain⟨hiL,o,ho,hall⟩:=mem_ready.1 hi;have hil:i<l.length:=by simpa using(Array.getElem?_eq_some_iff.1 ho).1
    have hS:a56 .any l.toArray l.toArray.size L:=fun j k _ hj hk=>h.shut j k hj hk
    have hall2:∀j,j<i→L.getD j false=true:=fun j hj=>J3 hS 8 i j (fun k hk=>R2 hi hk) (hF.last i j om0 (by simp;omega) hj)
    have hin2:i=n:=by
     rcases Nat.lt_or_ge n i with h1|h1
     ·have h2:=hall2 n h1;rw[h.front n (Nat.le_refl _)]at h2;cases h2
     ·omega
    subst hin2;have ha:a'=zh (got a') (l.take i) a:=by
     have hp:=X4 (got a') (l.take i) a;refine a2r (h.tsz.trans hp.1.symm) (h.dfs.trans hp.2.symm) fun s hs=>?_
     rw[Zs _ _ _ _ (by rw[←h.tsz];exact hs)];cases hany:(l.take i).any fun o=>o.dst==some s with
     |true=>simp
     |false=>
      simp only[Bool.false_eq_true,if_false];refine h.free s fun j oj hj hL hd=>?_
      have hjn:j<i:=by
       rcases Nat.lt_or_ge j i with h'|h'
       ·exact h'
       ·rw[h.front j h']at hL;cases hL
      have:((l.take i).any fun o=>o.dst==some s)=true:=List.any_eq_true.2 ⟨oj,List.mem_of_getElem? (i:=j) (by rw[List.getElem?_take,if_pos hjn];simpa using hj),by simp[hd]⟩;rw[hany]at this;cases this
    have hw:=hrest (got a') (dn L) w' hall2 h.grow (fun j hj=>h.rel j (hall2 j hj));rw[←ha]at hw;refine key L a' w' i i hs (Nat.le_refl _) om0 (fun j=>?_) hw hi;by_cases hj:j<i
    ·rw[hall2 j hj,decide_eq_true hj]
    ·rw[h.front j om0,decide_eq_false hj]
  ·exact key L a' w' i k hs hnk hkl hL hw hi
 ·rintro L a' w' (⟨hs,h⟩|⟨hs,k,hnk,hkl,hL,hw⟩) hr
  ·have hall:=an3 hF (by rw[hs,hsize]) hr;have hnl:l.length=n:=by
    rcases Nat.lt_or_ge n l.length with h1|h1
    ·have:=hall n (by simpa using h1);rw[h.front n (Nat.le_refl _)]at this;cases this
    ·omega
   have ha:a'=zh (got a') (l.take n) a:=by
    have hp:=X4 (got a') (l.take n) a;refine a2r (h.tsz.trans hp.1.symm) (h.dfs.trans hp.2.symm) fun s hs=>?_
    rw[Zs _ _ _ _ (by rw[←h.tsz];exact hs)];cases hany:(l.take n).any fun o=>o.dst==some s with
    |true=>simp
    |false=>
     simp only[Bool.false_eq_true,if_false];refine h.free s fun j oj hj hL hd=>?_
     have hjn:j<n:=by
      rcases Nat.lt_or_ge j n with h'|h'
      ·exact h'
      ·rw[h.front j h']at hL;cases hL
     have:((l.take n).any fun o=>o.dst==some s)=true:=List.any_eq_true.2 ⟨oj,List.mem_of_getElem? (i:=j) (by rw[List.getElem?_take,if_pos hjn];simpa using hj),by simp[hd]⟩;rw[hany]at this;cases this
   have hw:=hrest (got a') (dn L) w' (fun j hj=>hall j (by simp;omega)) h.grow (fun j hj=>h.rel j (hall j (by simp;omega)));rw[←ha,hnl,Nat.sub_self]at hw;exact hw
  ·have hall:=an3 (n:=n) (S:=S) (a0:=a) hF (by rw[hs,hsize]) hr;obtain rfl:k=l.length:=by
    rcases Nat.lt_or_ge k l.length with h1|h1
    ·have:=hall k (by simpa using h1);rw[hL k]at this;simp at this
    ·omega
   rw[Nat.sub_self]at hw;exact hw
 ·unfold QD;exact Nat.le_trans (List.length_filter_le _ _) (by simp)
 ·left;have hnone:dn (Array.replicate l.toArray.size false)=F8:=by
   funext j;unfold dn F8;by_cases hj:j<l.length<;>simp[hj]
  refine⟨by simp,by simp,rfl,rfl,fun s _=>rfl,by rw[hnone];exact hd,?_,?_,?_⟩
  ·intro i hi;by_cases hl:i<l.length<;>simp[hl]at hi
  ·intro i k hi;by_cases hl:i<l.length<;>simp[hl]at hi
  ·intro i _;by_cases hl:i<l.length<;>simp[hl]
theorem au6{w:World}:∃x,{w with drawn:=w.drawn+1}=plus w x:=⟨[⟨#[],w.drawn+1⟩],by simp[plus,blocks,draws]⟩
def a8G (P:Program) (md:Region.Mode) (ops:Array Oper) (n:Nat) (Φ:Nat→(Nat→Value)→World→Prop) (a0:Act) (w0:World) (Q:Exit→Act→World→Prop):List Oper→Nat→Prop:=
 ab3 fun i o=>∀a w,(∃x,w=plus w0 x)→(∀s,(ops.any fun o=>o.dst==some s)=false→got a s=got a0 s)→(∀j,N5 md ops ops.size 8 i j=true→Φ j (got a) w)→
   o.wp P a w (fun a' w'=>∃v,a'=a.put o.dst v∧(∃x,w'=plus w x)∧Φ i (upd (got a) o.dst v) w') Q
theorem zJ{id:Nat}{l:List Oper}(n:Nat)(S:Nat→List Nat)(Φ:Nat→(Nat→Value)→World→Prop){a:Act}{w:World}(hm:P.follows .mixedOrders=true)(hB:a3G .any l.toArray n S a.tmps.size=true)(hn:n≤l.length)
  (hmono:∀i t t' w x,Φ i t w→(∀s∈S i,t' s=t s)→Φ i t' (plus w x))
  (hst:a8G P .any l.toArray n Φ a w Q (l.take n) 0)
  (hend:∀t w',(∃x,w'=plus w x)→(∀j,j<n→Φ j t w')→wpList P l.toArray Q (l.drop n) (zh t (l.take n) a) w'):(Code.region id l.toArray true).wp P Q a w:=
 X0 n S (fun i t _ w=>Φ i t w) (fun _ w _ w'=>∃x,w'=plus w x) (fun _ _ _ _ _ _ h1 ⟨x,h2⟩=>h2▸zt h1) au6 hm hB hn (fun i t t' _ w _ _ h1 h2 ⟨x,h3⟩=>h3▸hmono i t t' w x h1 h2)
  (T7 (fun _ _ q a _ w h1 h2 h3 _=>q a w h1 (fun s hs=>h2 s (az1 hs)) h3) _ _ hst) (fun t _ w' _ h1 h2=>hend t w' h1 h2)
end
end
end Go.Proofs.YtcekcihijdipoaaGreat
