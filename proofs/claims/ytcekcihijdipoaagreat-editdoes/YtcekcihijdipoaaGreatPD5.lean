/- A pack of texts: Arena5, Copy, Nodes1, EdLay, Fixed, Fixed2, Fixed3, Vec1. -/
import Derived.Laws.CopyRow
import Derived.Laws.MakeOwn
import Derived.Test.YtcekcihijdipoaaGreatChecked
import Derived.Handy
import Derived.Test.YtcekcihijdipoaaGreatPD4
namespace Go.Proofs.YtcekcihijdipoaaGreat
set_option maxRecDepth 100000
set_option maxHeartbeats 16000000
open Go.RowKit Go.ChangeShapes Go.WideShapes Go.ChangeAt
set_option linter.unusedSimpArgs false
set_option linter.unusedVariables false
attribute [local go_sem] qn qZ A2 zg zz zA t5 qJ zf qO qD t6
section
def U2 (l:List Sl):List Sl:=if H7 l=0 then qP l else[]
def mkS (l:List Sl):Int:=if H7 l=0 then zb l else 0
def mkG (l:List Sl):Int:=if H7 l=0 then zQ l else 0
def a75 (w:World) (l:List Sl) (s g r:Int) (e:Ending) (w':World):Prop:=∃ao' cap',e=.returned (.tuple #[.agg #[.slice ao' l.length cap'],.agg #[.int .i64 s,.int .i64 g],.int .i64 r])∧(∃y,w'=plus w y)∧Own 86 2 fS w w' ao' l.length cap' l
def a9z (i:Nat):List Nat:=match i with|0=>[52]|1=>[53]|2=>[54]|3=>[55]|4=>[56]|5=>[57]|6=>[58]|7=>[59]|8=>[60]|11=>[4]|_=>[]
def ag6 (q g1 n c1 k:Nat) (gn:Int) (b1:Nat) (o1:Obj) (b2:Nat) (o2:Obj) (i:Nat) (t:Nat→Value) (w':World):Prop:=match i with
 |0=>t 52=.agg #[.slice (some ⟨g1,0,none⟩) n c1]
 |1=>t 53=.int .i64 k
 |2=>t 54=.pointer (some ⟨q,0,none⟩)
 |3=>t 55=.slice (some ⟨g1,0,none⟩) n c1
 |4=>t 56=.int .i64 k
 |5=>t 57=.pointer (some ⟨g1,k*2,none⟩)
 |6=>t 58=.pointer (some ⟨g1,k*2,none⟩)
 |7=>t 59=.int .i64 gn
 |8=>t 60=.agg #[.int .i64 k,.int .i64 gn]
 |9=>w'.heap[b1]?=some o1
 |10=>w'.heap[b2]?=some o2
 |11=>t 4=.int .i64 0
 |_=>True
theorem a5q(q g1 n c1 k:Nat)(gn:Int)(b1:Nat)(o1:Obj)(b2:Nat)(o2:Obj):∀i t t' w w',ag6 q g1 n c1 k gn b1 o1 b2 o2 i t w→(∀s∈a9z i,t' s=t s)→Two b1 o1 b2 o2 w w'→ag6 q g1 n c1 k gn b1 o1 b2 o2 i t' w':=by
 intro i t t' w w' h hs' ht
 match i with
 |0=>exact(hs' 52 dc0).trans h
 |1=>exact(hs' 53 dc0).trans h
 |2=>exact(hs' 54 dc0).trans h
 |3=>exact(hs' 55 dc0).trans h
 |4=>exact(hs' 56 dc0).trans h
 |5=>exact(hs' 57 dc0).trans h
 |6=>exact(hs' 58 dc0).trans h
 |7=>exact(hs' 59 dc0).trans h
 |8=>exact(hs' 60 dc0).trans h
 |9=>exact(QT ht h).elim id id
 |10=>exact(QI ht h).elim id id
 |11=>exact(hs' 4 dc0).trans h
 |i+12=>trivial
theorem ap2(ao:Option Addr)(n cap:Nat)(l:List Sl)(w:World)(hl:Lay fS w ao n l)(hn:n≤1000):
  Calls Tryz.prog 176 #[.agg #[.slice ao n cap]] w fun e w'=>a75 w (U2 l) (mkS l) (mkG l) (H7 l) e w':=by
 have hlen:=hl.len;cases ho:S5 l
 ·have he:H7 l=8:=by rw[H7,ho];rfl
  rw[mkS,mkG,U2,he];go_enter Tryz.func176,Tryz.ntmps176;go_wp2_with (go_at_call 139;refine pm0 (M7 _ _ _ l _ (hl.ex sk0) om0) fun nx=>?_;rw[ho]);exact bodyPost_ret (v:=.tuple #[.agg #[.slice none 0 0],.agg #[.int .i64 0,.int .i64 0],.int .i64 8]) (by simp[results,Tryz.results176,go_sem,↓IntWalk.iteOmega]) rfl ⟨none,0,rfl,sk0,zd⟩
 have h128:=QB ho;have iwn:IntKind.i64.wrap ((n:Int)+1)=(n:Int)+1:=L5 om0;go_enter Tryz.func176,Tryz.ntmps176;go_wp2_with (first|(go_at_call 139;refine pm0 (M7 _ _ _ l _ (hl.ex sk0) om0) fun nx=>?_;rw[ho])|(go_at_call 80;refine(ZI _ _ _ l _ (hl.ex sk0) om0).mono ?_;rintro e w1 ⟨a1,c1,rfl,hw1,o1⟩;have hr1:w1.heap[w.heap.size+1]?=some (.cells #[.slice none 0 0] 24):=i7 (w:=(w.alloc (.cells #[.slice ao n cap] 24)).alloc (.cells #[.slice none 0 0] 24)) sn0 (by rw[qe,if_pos (by simp[go_sem])]);have hr2:w1.heap[w.heap.size+1+1]?=some (.cells #[.int .i64 0,.int .i64 0] 32):=i7 (w:=((w.alloc (.cells #[.slice ao n cap] 24)).alloc (.cells #[.slice none 0 0] 24)).alloc (.cells #[.int .i64 0,.int .i64 0] 32)) sn0 (by rw[qe,if_pos (by simp[go_sem])]);have hrl:=qi hr2));go_loopw [6] (fun i wr=>∃k:Nat,k≤n∧i=.int .i64 k∧(∀j,j<k→S7 (nth dSl l j)=false)∧∃x,wr=plus (w1.alloc (.cells #[.slice a1 n c1] 24)) x) (fun i _=>n - (intOf i).toNat)
 case atStart=>exact⟨0,Nat.zero_le _,rfl,fun j hj=>om0,sk0⟩
 case round=>
  obtain⟨k,hk,rfl,hs,x,rfl⟩:=hrel;by_cases hkl:k<n
  ·have ik:(k:Int)<(n:Int):=om0;obtain⟨g1,cur,rfl,hg1,hb1,hsz⟩:=o1.blk om0;obtain⟨_,_,eqa,hlt1,hc1⟩:=o1.lay.some om0;cases eqa;obtain⟨x0,x1⟩:=Y3 o1.1 hc1 (k:=k) hkl;rw[Nat.zero_add]at x0 x1;have z0:=j9 (i:=k*2) hb1;have z1:=j9 (i:=k*2+1) hb1;cases hv:(nth dSl l k).live;rotate_left
   ·rw[hv]at x1;go_wp2;go_roundw
    case rel=>exact⟨k+1,om0,by go_num,B0 hs (by simp[S7,hv]),sk0⟩
    case measure=>simp[intOf];omega
   rw[hv]at x1;by_cases hgm:(nth dSl l k).gen<1073741824;rotate_left
   ·have dg:=decide_eq_false hgm;go_wp2;go_roundw
    case rel=>exact⟨k+1,om0,by go_num,B0 hs (by simp[S7,hv];omega),sk0⟩
    case measure=>simp[intOf];omega
   have hge:=(ZA ho (k:=k) om0).1;have iwg:IntKind.i64.wrap ((nth dSl l k).gen+1)=(nth dSl l k).gen+1:=L5 om0;go_wp2;have hgw:w.heap.size≤g1:=by simp[go_sem]at hg1;omega
   have hfa:B3 l=k:=ad3 om0 hs (fun _=>by simp[S7,hv];omega);have he:H7 l=0:=by rw[H7,if_pos ho,if_pos om0]
   have hml:qP l=l.set k ⟨(nth dSl l k).gen+1,true⟩:=by rw[qP,if_pos om0,hfa]
   have hmg:zQ l=(nth dSl l k).gen+1:=by rw[zQ,if_pos om0,hfa]
   have hmS:zb l=k:=by rw[zb,hfa]
   have n1:g1≠w.heap.size+1:=by
    intro e0;rw[e0,hr1]at hb1;cases hb1
   have n2:g1≠w.heap.size+1+1:=by
    intro e0;rw[e0,hr2]at hb1;cases hb1
   have o2:=(o1.set_self (u:=.bool true) k 1 ⟨(nth dSl l k).gen,true⟩ dSl hkl a1s dc0 rfl).set_self (u:=.int .i64 ((nth dSl l k).gen+1)) k 0 ⟨(nth dSl l k).gen+1,true⟩ dSl hkl a1s dc0 (by rw[qR om0,if_pos rfl];rfl);rw[List.set_set,Nat.add_zero]at o2;have r1:((w1.setCell ⟨g1,k*2+1,none⟩ (.bool true)).setCell ⟨g1,k*2,none⟩ (.int .i64 ((nth dSl l k).gen+1))).heap[w.heap.size+1]?=_:=(qd n1).trans ((qd n1).trans hr1);have r2:((w1.setCell ⟨g1,k*2+1,none⟩ (.bool true)).setCell ⟨g1,k*2,none⟩ (.int .i64 ((nth dSl l k).gen+1))).heap[w.heap.size+1+1]?=_:=(qd n2).trans ((qd n2).trans hr2);have hsz2:((w1.setCell ⟨g1,k*2+1,none⟩ (.bool true)).setCell ⟨g1,k*2,none⟩ (.int .i64 ((nth dSl l k).gen+1))).heap.size=w1.heap.size:=by rw[B9,B9]
   have hx2:∃y,(w1.setCell ⟨g1,k*2+1,none⟩ (.bool true)).setCell ⟨g1,k*2,none⟩ (.int .i64 ((nth dSl l k).gen+1))=plus w y:=qb (qb sn0 hgw) hgw;clear x0 x1 z0 z1 hb1 hc1 hr1 hr2;generalize (w1.setCell ⟨g1,k*2+1,none⟩ (.bool true)).setCell ⟨g1,k*2,none⟩ (.int .i64 ((nth dSl l k).gen+1))=w2 at*;obtain⟨_,_,eqa,_,hc2⟩:=o2.lay.some om0;cases eqa;obtain⟨x0,_⟩:=Y3 o2.1 hc2 (k:=k) hkl;rw[Nat.zero_add,qR om0,if_pos rfl]at x0;simp only at x0;have f0:(plus (w2.alloc (.cells #[.slice (some ⟨g1,0,none⟩) n c1] 24)) x).cell? ⟨w1.heap.size,0,none⟩=some (.slice (some ⟨g1,0,none⟩) n c1):=by simp[go_sem,hsz2,↓IntWalk.iteOmega]
   have f1:=qf (zt (y:=x) (qE (o:=(.cells #[.slice (some ⟨g1,0,none⟩) n c1] 24)) (j5 w2))) x0;have r1':=i7 (zt (y:=x) (qE (o:=(.cells #[.slice (some ⟨g1,0,none⟩) n c1] 24)) (j5 w2))) r1;have r2':=i7 (zt (y:=x) (qE (o:=(.cells #[.slice (some ⟨g1,0,none⟩) n c1] 24)) (j5 w2))) r2;have o3:=o2.ex (zt (y:=x) (qE (o:=(.cells #[.slice (some ⟨g1,0,none⟩) n c1] 24)) (j5 w2)));have hx3:=zt (y:=x) (qE (o:=(.cells #[.slice (some ⟨g1,0,none⟩) n c1] 24)) hx2);clear r1 r2 o2 hx2 x0 hc2;have nq1:w1.heap.size≠w.heap.size+1:=om0;have nq2:w1.heap.size≠w.heap.size+1+1:=om0;have nb:w.heap.size+1≠w.heap.size+1+1:=om0;generalize plus (w2.alloc (.cells #[.slice (some ⟨g1,0,none⟩) n c1] 24)) x=w3 at*;refine M5 12 a9z (ag6 w1.heap.size g1 n c1 k ((nth dSl l k).gen+1) (w.heap.size+1) (.cells #[.slice (some ⟨g1,0,none⟩) n c1] 24) (w.heap.size+1+1) (.cells #[.int .i64 k,.int .i64 ((nth dSl l k).gen+1)] 32)) (Two (w.heap.size+1) (.cells #[.slice (some ⟨g1,0,none⟩) n c1] 24) (w.heap.size+1+1) (.cells #[.int .i64 k,.int .i64 ((nth dSl l k).gen+1)] 32)) R0 (V5 _) kr0 kr0 dc0 (a5q _ _ _ _ _ _ _ _ _ _) ?steps ?fin
   case steps=>
    refine⟨?_,?_,?_,?_,?_,?_,?_,?_,?_,?_,?_,?_,trivial⟩<;>intro a w' hg hfree hdeep
    ·have f5':=hfree 5 kr0;have e0:=A1 hg f0 om0 om0;simp only[ag6,got]at f5';simp[go_sem]at f5';unfold Oper.wp;simp[go_sem,execOp,Act.eval,↓IntWalk.iteOmega,f5',e0];exact⟨_,rfl,zL _,by simp[ag6,upd]⟩
    ·have f6':=hfree 6 kr0;simp only[ag6,got]at f6';simp[go_sem]at f6';unfold Oper.wp;simp[go_sem,execOp,Act.eval,↓IntWalk.iteOmega,f6'];exact⟨_,rfl,zL _,by simp[ag6,upd]⟩
    ·have f5':=hfree 5 kr0;simp only[ag6,got]at f5';simp[go_sem]at f5';unfold Oper.wp;simp[go_sem,execOp,Act.eval,↓IntWalk.iteOmega,f5'];exact⟨_,rfl,zL _,by simp[ag6,upd]⟩
    ·have d2:=hdeep 2 kr0;have e0:=A1 hg f0 om0 om0;simp only[ag6,got]at d2;unfold Oper.wp;simp[go_sem,execOp,Act.eval,↓IntWalk.iteOmega,d2,e0];exact⟨_,rfl,zL _,by simp[ag6,upd]⟩
    ·have f6':=hfree 6 kr0;simp only[ag6,got]at f6';simp[go_sem]at f6';unfold Oper.wp;simp[go_sem,execOp,Act.eval,↓IntWalk.iteOmega,f6'];exact⟨_,rfl,zL _,by simp[ag6,upd]⟩
    ·have d3:=hdeep 3 kr0;have d4:=hdeep 4 kr0;simp only[ag6,got]at d3 d4;unfold Oper.wp;simp[go_sem,execOp,Act.eval,↓IntWalk.iteOmega,d3,d4];exact⟨_,rfl,zL _,by simp[ag6,upd]⟩
    ·have d5:=hdeep 5 kr0;simp only[ag6,got]at d5;unfold Oper.wp;simp[go_sem,execOp,Act.eval,↓IntWalk.iteOmega,d5];exact⟨_,rfl,zL _,by simp[ag6,upd]⟩
    ·have d6:=hdeep 6 kr0;have e1:=A1 hg f1 om0 om0;simp only[ag6,got]at d6;unfold Oper.wp;simp[go_sem,execOp,Act.eval,↓IntWalk.iteOmega,d6,e1];exact⟨_,rfl,zL _,by simp[ag6,upd]⟩
    ·have d1:=hdeep 1 kr0;have d7:=hdeep 7 kr0;simp only[ag6,got]at d1 d7;simp at d1 d7;unfold Oper.wp;simp[go_sem,execOp,Act.eval,↓IntWalk.iteOmega,d1,d7];exact⟨_,rfl,zL _,by simp[ag6,upd]⟩
    ·have f2':=hfree 2 kr0;have d0:=hdeep 0 kr0;simp only[ag6,got]at f2' d0;simp[go_sem]at f2';rcases QT hg r1' with hb|hb
     ·have c0':=i6 (i:=0) hb rfl;have z0':=j9 (i:=0) hb;unfold Oper.wp;simp[go_sem,execOp,Act.eval,f2',d0,c0',z0'];exact⟨Zn nb (j7 hb),undef,(j7 hb)⟩
     ·have c0':=i6 (i:=0) hb rfl;have z0':=j9 (i:=0) hb;unfold Oper.wp;simp[go_sem,execOp,Act.eval,f2',d0,c0',z0'];exact⟨Zn nb (j7 hb),undef,(j7 hb)⟩
    ·have f3':=hfree 3 kr0;have d8:=hdeep 8 kr0;simp only[ag6,got]at f3' d8;simp[go_sem]at f3';rcases QI hg r2' with hb|hb
     ·have c0':=i6 (i:=0) hb rfl;have z0':=j9 (i:=0) hb;have c1':=i6 (i:=1) hb rfl;have z1':=j9 (i:=1) hb;unfold Oper.wp;simp[go_sem,execOp,Act.eval,f3',d8,c0',z0',c1',z1'];exact⟨J0 nb (j7 (j7 hb)),undef,(j7 (j7 hb))⟩
     ·have c0':=i6 (i:=0) hb rfl;have z0':=j9 (i:=0) hb;have c1':=i6 (i:=1) hb rfl;have z1':=j9 (i:=1) hb;unfold Oper.wp;simp[go_sem,execOp,Act.eval,f3',d8,c0',z0',c1',z1'];exact⟨J0 nb (j7 (j7 hb)),undef,(j7 (j7 hb))⟩
    ·unfold Oper.wp;simp[go_sem,execOp,Act.eval,↓IntWalk.iteOmega];exact⟨_,rfl,zL _,by simp[ag6,upd]⟩
   case fin=>
    rintro t w4 hg hΦ;have h9:=hΦ 9 dc0;have h10:=hΦ 10 dc0;simp only[ag6]at h9 h10;have o4:=o3.two hg r1' r2' dc0 dc0;have hx4:=al7 hg hx3 om0 om0;have h11:=hΦ 11 dc0;simp only[ag6]at h11;simp only[zh,List.take_succ_cons,List.take_zero,List.take_nil,Act.put];simp only[List.setIfInBounds_toArray,List.set_cons_succ,List.set_cons_zero,h11];simp only[List.drop_succ_cons,List.drop_zero];clear hΦ hg o3 hx3 f0 f1 r1' r2';have c0:=i6 (i:=0) h9 rfl;have c1':=i6 (i:=0) h10 rfl;have c2':=i6 (i:=1) h10 rfl;go_wp2;have hpost:a75 w (U2 l) (mkS l) (mkG l) (H7 l) (.returned (.tuple #[.agg #[.slice (some ⟨g1,0,none⟩) n c1],.agg #[.int .i64 k,.int .i64 ((nth dSl l k).gen+1)],.int .i64 0])) w4:=by
     rw[U2,mkS,mkG,if_pos he,if_pos he,if_pos he,he,hml,hmg,hmS];exact⟨some ⟨g1,0,none⟩,c1,by rw[List.length_set,hlen],hx4,by rw[List.length_set,hlen];exact o4.base (by simp[go_sem];omega)⟩
    exact bodyPost_ret (v:=.tuple #[.agg #[.slice (some ⟨g1,0,none⟩) n c1],.agg #[.int .i64 k,.int .i64 ((nth dSl l k).gen+1)],.int .i64 0]) (by simp[results,Tryz.results176,go_sem,c0,c1',c2']) rfl hpost
  ·have ik:¬(k:Int)<(n:Int):=om0;have hkn:k=n:=om0;have hfa:B3 l=n:=ad3 om0 (fun j hj=>hs j om0) (fun h=>om0);have u0:=i6 (i:=0) hr1 rfl;have u1:=i6 (i:=0) hr2 rfl;have u2:=i6 (i:=1) hr2 rfl;have v0:=j9 (i:=0) hr1;have v1:=j9 (i:=0) hr2;have v2:=j9 (i:=1) hr2;by_cases h8:n=128
   ·have i8:(n:Int)=128:=om0;have he:H7 l=9:=by rw[H7,if_pos ho,if_neg om0,if_pos om0]
    go_wp2;have nb:w.heap.size+1+1≠w.heap.size+1:=om0;have nb':w.heap.size+1≠w.heap.size+1+1:=om0;have p1:(((w1.setCell ⟨w.heap.size+1,0,none⟩ (.slice none 0 0)).setCell ⟨w.heap.size+1+1,0,none⟩ (.int .i64 0)).setCell ⟨w.heap.size+1+1,1,none⟩ (.int .i64 0)).heap[w.heap.size+1]?=some (.cells #[.slice none 0 0] 24):=(qd nb).trans ((qd nb).trans (j7 hr1));have p2:(((w1.setCell ⟨w.heap.size+1,0,none⟩ (.slice none 0 0)).setCell ⟨w.heap.size+1+1,0,none⟩ (.int .i64 0)).setCell ⟨w.heap.size+1+1,1,none⟩ (.int .i64 0)).heap[w.heap.size+1+1]?=some (.cells #[.int .i64 0,.int .i64 0] 32):=j7 (j7 ((qd nb').trans hr2));have hx2:∃y,((w1.setCell ⟨w.heap.size+1,0,none⟩ (.slice none 0 0)).setCell ⟨w.heap.size+1+1,0,none⟩ (.int .i64 0)).setCell ⟨w.heap.size+1+1,1,none⟩ (.int .i64 0)=plus w y:=qb (qb (qb sn0 om0) om0) om0;clear u0 u1 u2 v0 v1 v2 hr1 hr2;generalize ((w1.setCell ⟨w.heap.size+1,0,none⟩ (.slice none 0 0)).setCell ⟨w.heap.size+1+1,0,none⟩ (.int .i64 0)).setCell ⟨w.heap.size+1+1,1,none⟩ (.int .i64 0)=w2 at*;have hp1:=qi p1;have hp2:=qi p2;have c0:=i6 (i:=0) p1 rfl;have c1':=i6 (i:=0) p2 rfl;have c2':=i6 (i:=1) p2 rfl;have hpost:∀w4,(∃y,w4=plus w y)→a75 w (U2 l) (mkS l) (mkG l) 9 (.returned (.tuple #[.agg #[.slice none 0 0],.agg #[.int .i64 0,.int .i64 0],.int .i64 9])) w4:=by
     intro w4 h4;rw[U2,mkS,mkG,he];exact⟨none,0,rfl,h4,zd⟩
    exact bodyPost_ret (v:=.tuple #[.agg #[.slice none 0 0],.agg #[.int .i64 0,.int .i64 0],.int .i64 9]) (by simp[results,Tryz.results176,go_sem,↓IntWalk.iteOmega,c0,c1',c2']) rfl (hpost _ (zt (qE hx2)))
   ·have i8:¬(n:Int)=128:=om0;have d8:((n:Int)==128)=false:=by rw[beq_eq_false_iff_ne];exact i8
    have he:H7 l=0:=by rw[H7,if_pos ho,if_neg om0,if_neg om0]
    have hml:qP l=l++[⟨1,true⟩]:=by rw[qP,if_neg om0]
    have hmg:zQ l=1:=by rw[zQ,if_neg om0]
    have hmS:zb l=n:=by rw[zb,hfa]
    have ow:=o1.base (T':=w) (by simp[go_sem];omega);go_wp2_with (at_builtin;refine qW (T:=w) rfl _ _ rfl a8t a1s a8W rfl sn0 (ow.ex sk0) rfl (l2:=[⟨1,true⟩]) ⟨rfl,.inr ⟨_,0,rfl,by(simp[go_sem];try omega),fun jj u hu=>by match jj,hu with|0,hu=>(simp[fS]at hu;subst hu;simp[go_sem,↓IntWalk.iteOmega])|1,hu=>(simp[fS]at hu;subst hu;simp[go_sem,↓IntWalk.iteOmega])|jj+2,hu=>simp[fS]at hu⟩⟩ om0 dc0 ?_;intro a4 c4 w4 o4 hx4 hgr4;have bx:=t8 (g:=w1.heap.size) hgr4 (ow.ex sk0) (i7 (w:=w1.alloc (.cells #[.slice a1 n c1] 24)) sk0 (by rw[qe,if_pos rfl])) dc0;have b1:=t8 hgr4 (ow.ex sk0) (i7 sk0 hr1) dc0;have b2:=t8 hgr4 (ow.ex sk0) (i7 sk0 hr2) dc0;clear u0 u1 u2 v0 v1 v2;have u0:=i6 (i:=0) b1 rfl;have u1:=i6 (i:=0) b2 rfl;have u2:=i6 (i:=1) b2 rfl;have u3:=i6 (i:=0) bx rfl;have v0:=j9 (i:=0) b1;have v1:=j9 (i:=0) b2;have v2:=j9 (i:=1) b2;have v3:=j9 (i:=0) bx;have lx:=qi bx;have l2:=qi b2);have nx1:w1.heap.size≠w.heap.size+1:=om0;have nx2:w1.heap.size≠w.heap.size+1+1:=om0;have nb:w.heap.size+1+1≠w.heap.size+1:=om0;have nb':w.heap.size+1≠w.heap.size+1+1:=om0;have p1:((((w4.setCell ⟨w1.heap.size,0,none⟩ (.slice a4 (n+1) c4)).setCell ⟨w.heap.size+1,0,none⟩ (.slice a4 (n+1) c4)).setCell ⟨w.heap.size+1+1,0,none⟩ (.int .i64 n)).setCell ⟨w.heap.size+1+1,1,none⟩ (.int .i64 1)).heap[w.heap.size+1]?=some (.cells #[.slice a4 (n+1) c4] 24):=(qd nb).trans ((qd nb).trans (j7 ((qd nx1).trans b1)));have p2:((((w4.setCell ⟨w1.heap.size,0,none⟩ (.slice a4 (n+1) c4)).setCell ⟨w.heap.size+1,0,none⟩ (.slice a4 (n+1) c4)).setCell ⟨w.heap.size+1+1,0,none⟩ (.int .i64 n)).setCell ⟨w.heap.size+1+1,1,none⟩ (.int .i64 1)).heap[w.heap.size+1+1]?=some (.cells #[.int .i64 n,.int .i64 1] 32):=j7 (j7 ((qd nb').trans ((qd nx2).trans b2)));have hx5:∃y,(((w4.setCell ⟨w1.heap.size,0,none⟩ (.slice a4 (n+1) c4)).setCell ⟨w.heap.size+1,0,none⟩ (.slice a4 (n+1) c4)).setCell ⟨w.heap.size+1+1,0,none⟩ (.int .i64 n)).setCell ⟨w.heap.size+1+1,1,none⟩ (.int .i64 1)=plus w y:=qb (qb (qb (qb hx4 om0) om0) om0) om0;have o5:=(((o4.set_other (i:=0) (u:=.slice a4 (n+1) c4) bx dc0).set_other (i:=0) (u:=.slice a4 (n+1) c4) ((qd nx1).trans b1) dc0).set_other (i:=0) (u:=.int .i64 n) ((qd nb').trans ((qd nx2).trans b2)) dc0).set_other (i:=1) (u:=.int .i64 1) (j7 ((qd nb').trans ((qd nx2).trans b2))) dc0;clear u0 u1 u2 u3 v0 v1 v2 v3 bx b1 b2 o4 hx4 hgr4;generalize (((w4.setCell ⟨w1.heap.size,0,none⟩ (.slice a4 (n+1) c4)).setCell ⟨w.heap.size+1,0,none⟩ (.slice a4 (n+1) c4)).setCell ⟨w.heap.size+1+1,0,none⟩ (.int .i64 n)).setCell ⟨w.heap.size+1+1,1,none⟩ (.int .i64 1)=w5 at*;have c0:=i6 (i:=0) p1 rfl;have c1':=i6 (i:=0) p2 rfl;have c2':=i6 (i:=1) p2 rfl;have hpost:a75 w (U2 l) (mkS l) (mkG l) 0 (.returned (.tuple #[.agg #[.slice a4 (n+1) c4],.agg #[.int .i64 n,.int .i64 1],.int .i64 0])) w5:=by
     rw[U2,mkS,mkG,if_pos he,if_pos he,if_pos he,hml,hmg,hmS];exact⟨a4,c4,by rw[List.length_append,hlen];rfl,hx5,by rw[List.length_append,hlen];exact o5⟩
    exact bodyPost_ret (v:=.tuple #[.agg #[.slice a4 (n+1) c4],.agg #[.int .i64 n,.int .i64 1],.int .i64 0]) (by simp[results,Tryz.results176,go_sem,c0,c1',c2']) rfl hpost
end
section
open Go.RowKit
section
variable {α:Type} {f:α→List Value} {P:Program} {w W:World} {ao:Option Addr} {n m cap c c2 b g o0:Nat} {l:List α} {e t t2:TypeId} {cur:Array Value}
theorem a0F{ty:TypeId}(hk:Kin P t e c b)(hc:∀x,(f x).length=c)(h1:∀x,∀u∈f x,u.oneCell'=true)(hg:w.heap[g]?=some (.cells cur e))(hl:Lay f w ao m l)(hmn:m≤n)(hfit:o0+m*c≤cur.size):
  (Builtin.copy_ #[t,t2] ty #[.slice (some ⟨g,o0,none⟩) n cap,.slice ao m c2]).run P w=.ok (goInt m) (w.setRow g (cur.toList.take o0++l.flatMap f++cur.toList.drop (o0+m*c)).toArray):=by
 obtain⟨i,z,hi,_,hz1,_,_⟩:=hk.info;have hlen:(l.flatMap f).length=m*c:=by rw[zE hc,hl.len]
 have hst:=run_storeCells_at P g o0 e (l.flatMap f) 0 cur w hg (by rw[hlen];simpa using hfit) (Zy h1 l);rw[hlen]at hst;have hmin:Nat.min m n=m:=Nat.min_eq_left hmn;by_cases h0:m=0
 ·subst h0;obtain rfl:=hl.zero;simp only[List.flatMap_nil,Nat.zero_mul,Nat.add_zero]at hst ⊢;cases ao with
  |none=>simp[Builtin.copy_,run_underlying hk.und,Builtin.lenOf,Builtin.firstCells,sizeOf,typeInfo,hi,hz1,hst]
  |some a0=>simp[Builtin.copy_,run_underlying hk.und,Builtin.lenOf,Builtin.firstCells,sizeOf,typeInfo,hi,hz1,hst,loadCells,loadCellsFrom]
 ·obtain⟨g2,off,rfl,hg2,hcell⟩:=hl.some om0;have hld:=run_loadCells_list (P:=P) w ⟨g2,off,none⟩ (l.flatMap f) (fun j u hu=>by have hadd:(⟨g2,off,none⟩:Addr).add j=⟨g2,off+j,none⟩:=(by unfold Addr.add;split<;>simp_all);rw[hadd];exact hcell j u hu);rw[hlen]at hld;simp only[Nat.add_zero]at hst;simp[Builtin.copy_,run_underlying hk.und,Builtin.lenOf,Builtin.firstCells,sizeOf,typeInfo,hi,hz1,hmin,hld,hst]
theorem a0Y(W:World)(cur cs:Array Value)(e:TypeId):(W.alloc (.cells cur e)).setRow W.heap.size cs=W.alloc (.cells cs e):=by
 unfold World.setRow World.alloc
 congr 1
 apply Array.ext_getElem?;intro k;simp only[Array.getElem?_modify,Array.getElem?_push];by_cases h:W.heap.size=k
 ·subst h;simp
 ·have h':¬k=W.heap.size:=fun e=>h e.symm
  simp[h,h']
theorem ae1(W:World)(ob:Obj)(cs:Array Value)(h:g<W.heap.size):(W.alloc ob).setRow g cs=(W.setRow g cs).alloc ob:=by
 unfold World.setRow World.alloc
 congr 1
 apply Array.ext_getElem?;intro k;simp only[Array.getElem?_modify,Array.getElem?_push,Array.size_modify];by_cases hk:g=k
 ·subst hk;have:¬g=W.heap.size:=om0;simp[this]
 ·simp[hk]
theorem a0x{ob:Obj}{ty:TypeId}(hk:Kin P t e c b)(hc:∀x,(f x).length=c)(h1:∀x,∀u∈f x,u.oneCell'=true)(hg:g=W.heap.size)(hl:Lay f ((W.alloc (.cells cur e)).alloc ob) ao n l)(hsz:cur.size=n*c):
  (Builtin.copy_ #[t,t2] ty #[.slice (some ⟨g,0,none⟩) n cap,.slice ao n c2]).run P ((W.alloc (.cells cur e)).alloc ob)=.ok (goInt n) ((W.alloc (.cells (l.flatMap f).toArray e)).alloc ob):=by
 subst hg;have hb:((W.alloc (.cells cur e)).alloc ob).heap[W.heap.size]?=some (.cells cur e):=by
  rw[qe,if_neg (by simp),qe,if_pos rfl]
 have hrun:=a0F (t2:=t2) (ty:=ty) (cap:=cap) (c2:=c2) (o0:=0) hk hc h1 hb hl (Nat.le_refl _) om0;rw[ae1 _ _ _ (by simp),a0Y]at hrun;simp only[List.take_zero,List.nil_append,Nat.zero_add]at hrun;rw[List.drop_eq_nil_of_le (by simp;omega),List.append_nil]at hrun;exact hrun
theorem Z9{T:World}(hl:l.length=n)(hc:∀x,(f x).length=c)(hg:w.heap[g]?=some (.cells (l.flatMap f).toArray e))(hT:T.heap.size≤g)(hn:n≤maxLen):Own e c f T w (some ⟨g,0,none⟩) n n l:=by
 have hlen:(l.flatMap f).length=n*c:=by rw[zE hc,hl]
 exact⟨hl,hlen,.inr ⟨g,n,_,rfl,hT,hg,Nat.le_refl _,hn,by simpa using hlen,List.take_of_length_le (Nat.le_of_eq hlen)⟩⟩
theorem a1q(hk:∃i z,P.info? e=some i∧i.zero=some z∧i.size=c∧i.bytes=b∧z.cells.size=c)(hu:P.underlying t=some (.slice e))(n:Nat)(hn:n≤100000)(hb:b≤100000):∃cur:Array Value,cur.size=n*c∧∀w:World,(Instr.makeSlice t (.int .i64 n) (.int .i64 n)).run P w=.ok (.slice (some ⟨w.heap.size,0,none⟩) n n) (w.alloc (.cells cur e)):=by
 obtain⟨i,z,hi,hz,hz1,hz2,_⟩:=hk;refine⟨madeCells z.cells (n*c),size_madeCells _ _,fun w=>?_⟩;have hb1:i.bytes*n≤281474976710656:=by
  rw[hz2];exact Nat.le_trans (Nat.mul_le_mul hb hn) dc0
 have h:=run_make w t e i z hu hi hz .i64 .i64 n n om0 (Int.le_refl _) (by rw[←Int.natCast_mul];omega) om0;rw[Int.toNat_natCast,hz1]at h;exact h
end
end
section
structure RH where
 ao:Option Addr
 n:Nat
 cap:Nat
def dRH:RH:=⟨none,0,0⟩
def fR (h:RH):List Value:=[.slice h.ao h.n h.cap]
theorem a4O:∀x,(fR x).length=1:=fun _=>rfl
theorem a9k:∀x,∀u∈fR x,u.oneCell'=true:=by intro x u hu;simp only[fR,List.mem_cons,List.not_mem_nil,or_false]at hu;subst hu;rfl
theorem a8Z:Kin Tryz.prog 25 88 1 24:=⟨Tryz.underlying25,ZU (z:=.slice none 0 0) kr0 rfl,dc0⟩
theorem O9{w:World}{g off n k:Nat}{l:List RH}(hl:l.length=n)(h:∀j u,(l.flatMap fR)[j]?=some u→w.cell? ⟨g,off+j,none⟩=some u)(hk:k<n):w.cell? ⟨g,off+k,none⟩=some (.slice (nth dRH l k).ao (nth dRH l k).n (nth dRH l k).cap):=by
 have h0:=A6 (d:=dRH) hl a4O h k 0 _ hk dc0 rfl;rwa[Nat.mul_one,Nat.add_zero]at h0
structure QL (w:World) (ao:Option Addr) (n:Nat) (ko:Option Addr) (kn:Nat) (hs:List RH) (g:Gr):Prop where
 sl:Lay fS w ao n g.sl
 kh:Lay fR w ko kn hs
 len:hs.length=g.ks.length
 row:∀k,k<hs.length→Lay f2 w (nth dRH hs k).ao (nth dRH hs k).n (nth [] g.ks k)
 n1:n≤1000
 n2:kn≤1000
 n3:∀k,k<hs.length→(nth dRH hs k).n≤1000
 n4:∀k,k<hs.length→(nth dRH hs k).n≤(nth dRH hs k).cap
 n5:∀k,k<hs.length→(nth dRH hs k).ao=none→(nth dRH hs k).n=0∧(nth dRH hs k).cap=0
theorem QL.ex{w w':World}{ao:Option Addr}{n:Nat}{ko:Option Addr}{kn:Nat}{hs:List RH}{g:Gr}(h:QL w ao n ko kn hs g)(hw:∃x,w'=plus w x):QL w' ao n ko kn hs g:=
 ⟨h.sl.ex hw,h.kh.ex hw,h.len,fun k hk=>(h.row k hk).ex hw,h.n1,h.n2,h.n3,h.n4,h.n5⟩
theorem QL.kl{w:World}{ao:Option Addr}{n:Nat}{ko:Option Addr}{kn:Nat}{hs:List RH}{g:Gr}(h:QL w ao n ko kn hs g):g.ks.length=kn:=h.len.symm.trans h.kh.len
theorem QL.rl{w:World}{ao:Option Addr}{n:Nat}{ko:Option Addr}{kn:Nat}{hs:List RH}{g:Gr}(h:QL w ao n ko kn hs g){k:Nat}(hk:k<kn):(nth [] g.ks k).length=(nth dRH hs k).n:=(h.row k (by rw[h.kh.len];exact hk)).len
def a37 (a b:List (List (Int × Int))):Bool:=V4 ZQ [] a b
def aq2 (a b:Gr):Bool:=a0G a.sl b.sl&&a37 a.ks b.ks
theorem a3v(a:Gr):aq2 a a=true:=by
 rw[aq2,show a0G a.sl a.sl=true from G2 a68 _,show a37 a.ks a.ks=true from G2 (fun r=>G2 a2E r) _];rfl
theorem a3c{w:World}{ao ao2:Option Addr}{n n2 cap cap2:Nat}{l l2:List (Int × Int)}{b:Bool}(h:ZQ l l2=b)(hl:Lay f2 w ao n l)(hl2:Lay f2 w ao2 n2 l2)(hn:n≤10000)(hn2:n2≤10000):
  Calls Tryz.prog 102 #[.slice ao n cap,.slice ao2 n2 cap2] w fun e w'=>e=.returned (.bool b)∧Below w.heap.size w w':=by
 subst h;exact a1y ao ao2 n n2 cap cap2 l l2 w hl hl2 hn hn2
theorem Qb(ao:Option Addr)(n cap:Nat)(ko:Option Addr)(kn kcap:Nat)(hs:List RH)(a:Gr)(ao2:Option Addr)(n2 cap2:Nat)(ko2:Option Addr)(kn2 kcap2:Nat)(hs2:List RH)(b:Gr)(w:World)(hG:QL w ao n ko kn hs a)(hG2:QL w ao2 n2 ko2 kn2 hs2 b):
  Calls Tryz.prog 52 #[.agg #[.slice ao n cap,.slice ko kn kcap],.agg #[.slice ao2 n2 cap2,.slice ko2 kn2 kcap2]] w fun e w'=>e=.returned (.bool (aq2 a b))∧Below w.heap.size w w':=by
 have hlen:=hG.kl;have hlen2:=hG2.kl;have b1:=hG.n1;have b2:=hG2.n1;have b3:=hG.n2;have b4:=hG2.n2;cases hS:a0G a.sl b.sl
 ·rw[show aq2 a b=false by rw[aq2,hS];rfl];go_enter Tryz.func52,Tryz.ntmps52;go_wp2_with (go_at_call 101;refine pm0 (Y8 _ _ _ _ _ _ a.sl b.sl _ (hG.sl.ex sk0) (hG2.sl.ex sk0) om0 om0) fun nx=>?_;rw[hS]);go_ret;exact⟨rfl,skB⟩
 rw[show aq2 a b=a37 a.ks b.ks by rw[aq2,hS];rfl];by_cases hne:kn=kn2;rotate_left
 ·rw[show a37 a.ks b.ks=false from L2 om0];have ine:¬(kn:Int)=(kn2:Int):=om0;have dne:((kn:Int)==(kn2:Int))=false:=by rw[beq_eq_false_iff_ne];omega
  go_enter Tryz.func52,Tryz.ntmps52;go_wp2_with (go_at_call 101;refine pm0 (Y8 _ _ _ _ _ _ a.sl b.sl _ (hG.sl.ex sk0) (hG2.sl.ex sk0) om0 om0) fun nx=>?_;rw[hS]);go_ret;exact⟨rfl,skB⟩
 subst hne;go_enter Tryz.func52,Tryz.ntmps52;go_wp2_with (go_at_call 101;refine pm0 (Y8 _ _ _ _ _ _ a.sl b.sl _ (hG.sl.ex sk0) (hG2.sl.ex sk0) om0 om0) fun nx=>?_;rw[hS]);go_loopw [5] (fun i wr=>∃k:Nat,k≤kn∧i=.int .i64 k∧(∀j,j<k→ZQ (nth [] a.ks j) (nth [] b.ks j)=true)∧∃x,wr=plus (plus ((w.alloc (.cells #[.slice ao n cap,.slice ko kn kcap] 27)).alloc (.cells #[.slice ao2 n2 cap2,.slice ko2 kn kcap2] 27)) nx) x) (fun i _=>kn - (intOf i).toNat)
 case atStart=>exact⟨0,Nat.zero_le _,rfl,fun j hj=>om0,sk0⟩
 case round=>
  obtain⟨k,hk,rfl,hs',x,rfl⟩:=hrel;by_cases hkl:k<kn
  ·have ik:(k:Int)<(kn:Int):=om0;obtain⟨g1,o1,rfl,hg1,hc1⟩:=hG.kh.some om0;obtain⟨g2,o2,rfl,hg2,hc2⟩:=hG2.kh.some om0;have c1:=O9 hG.kh.len hc1 hkl;have c2:=O9 hG2.kh.len hc2 hkl;have r1:=hG.row k (by rw[hG.kh.len];exact hkl);have r2:=hG2.row k (by rw[hG2.kh.len];exact hkl);have m1:=hG.n3 k (by rw[hG.kh.len];exact hkl);have m2:=hG2.n3 k (by rw[hG2.kh.len];exact hkl);cases hq:ZQ (nth [] a.ks k) (nth [] b.ks k)
   ·go_wp2;refine qg kr0 kr0 ?_
    (repeat(go_big_quiet_step ((go_at_call 102;exact C8 (a3c hq (r1.ex sk0) (r2.ex sk0) om0 om0)))))
    refine wpQuiet_nil ?_;rintro _ ⟨x2,rfl⟩;go_wp2;go_ret;exact⟨by rw[show a37 a.ks b.ks=false from D7 (k:=k) om0 hq];rfl,skB⟩
   ·go_wp2;refine qg kr0 kr0 ?_
    (repeat(go_big_quiet_step ((go_at_call 102;exact C8 (a3c hq (r1.ex sk0) (r2.ex sk0) om0 om0)))))
    refine wpQuiet_nil ?_;rintro _ ⟨x2,rfl⟩;go_wp2;go_roundw
    case rel=>exact⟨k+1,om0,by go_num,B0 hs' hq,sk0⟩
    case measure=>simp[intOf];omega
  ·have ik:¬(k:Int)<(kn:Int):=om0;go_wp2;go_ret;exact⟨by rw[show a37 a.ks b.ks=true from L0 om0 (fun j hj=>hs' j om0)];rfl,skB⟩
def Y2 (hs:List RH):Nat→Nat
 |0=>0
 |k+1=>Y2 hs k+(nth dRH hs k).n
theorem a5m(hs:List RH)(k:Nat):∀j,Y2 hs k≤Y2 hs (k+j)
 |0=>Nat.le_refl _
 |j+1=>Nat.le_trans (a5m hs k j) (Nat.le_add_right _ _)
theorem a8C(hs:List RH){k n:Nat}(hk:k<n):(nth dRH hs k).n≤Y2 hs n:=by
 have h1:=a5m hs (k+1) (n - (k+1));rw[show k+1+(n - (k+1))=n by omega]at h1;have:Y2 hs (k+1)=Y2 hs k+(nth dRH hs k).n:=rfl;omega
def R5 (n kn:Nat) (hs:List RH):Bool:=decide (200<n)||(decide (200<kn)||decide (400<Y2 hs kn))
theorem a6B{n kn:Nat}{hs:List RH}(h:R5 n kn hs=false):n≤200∧kn≤200∧Y2 hs kn≤400:=by
 simp only[R5,Bool.or_eq_false_iff,decide_eq_false_iff_not]at h;omega
theorem Qj(ao:Option Addr)(n cap:Nat)(ko:Option Addr)(kn kcap:Nat)(hs:List RH)(w:World)(hk:Lay fR w ko kn hs)(hn:n≤9223372036854775807)(hkn:kn≤9223372036854775807)(hr:∀k,k<kn→(nth dRH hs k).n≤8796093022208):
  Calls Tryz.prog 32 #[.agg #[.slice ao n cap,.slice ko kn kcap]] w fun e w'=>e=.returned (.bool (R5 n kn hs))∧Below w.heap.size w w':=by
 by_cases h1:200<n
 ·rw[show R5 n kn hs=true by simp[R5,h1]];have i1:(200:Int)<(n:Int):=om0;go_enter Tryz.func32,Tryz.ntmps32;go_wp2;go_ret;exact⟨rfl,skB⟩
 have i1:¬(200:Int)<(n:Int):=om0;have d1:=decide_eq_false i1;by_cases h2:200<kn
 ·rw[show R5 n kn hs=true by simp[R5,h2]];have i2:(200:Int)<(kn:Int):=om0;go_enter Tryz.func32,Tryz.ntmps32;go_wp2;go_ret;exact⟨rfl,skB⟩
 have i2:¬(200:Int)<(kn:Int):=om0;have d2:=decide_eq_false i2;go_enter Tryz.func32,Tryz.ntmps32;go_wp2;go_loopw [3,4] (fun m i wr=>∃k:Nat,k≤kn∧m=.int .i64 (Y2 hs k)∧i=.int .i64 k∧Y2 hs k≤400∧∃x,wr=plus (w.alloc (.cells #[.slice ao n cap,.slice ko kn kcap] 27)) x) (fun _ i _=>kn - (intOf i).toNat)
 case atStart=>exact⟨0,Nat.zero_le _,rfl,rfl,by simp[Y2],sk0⟩
 case round=>
  obtain⟨k,hk',rfl,rfl,hs',x,rfl⟩:=hrel;by_cases hkl:k<kn
  ·have ik:(k:Int)<(kn:Int):=om0;obtain⟨g1,o1,rfl,hg1,hc1⟩:=hk.some om0;have c1:=O9 hk.len hc1 hkl;have hrk:=hr k hkl;have hS:Y2 hs (k+1)=Y2 hs k+(nth dRH hs k).n:=rfl;have iw:IntKind.i64.wrap ((Y2 hs k:Int)+((nth dRH hs k).n:Int))=(Y2 hs k:Int)+((nth dRH hs k).n:Int):=L5 om0;by_cases h3:400<Y2 hs (k+1)
   ·have i3:(400:Int)<(Y2 hs k:Int)+((nth dRH hs k).n:Int):=om0;have ht:R5 n kn hs=true:=by
     have:=a5m hs (k+1) (kn - (k+1));rw[show k+1+(kn - (k+1))=kn by omega]at this;simp[R5];omega
    go_wp2;go_ret;exact⟨by first|rfl|(rw[ht];rfl),skB⟩
   ·have i3:¬(400:Int)<(Y2 hs k:Int)+((nth dRH hs k).n:Int):=om0;have d3:=decide_eq_false i3;go_wp2;go_roundw
    case rel=>exact⟨k+1,om0,by rw[hS];go_num,by go_num,om0,sk0⟩
    case measure=>simp[intOf];omega
  ·have ik:¬(k:Int)<(kn:Int):=om0;obtain rfl:k=kn:=om0;have hf:R5 n k hs=false:=by
    simp only[R5,Bool.or_eq_false_iff,decide_eq_false_iff_not];omega
   go_wp2;go_ret;exact⟨by first|rfl|(rw[hf];rfl),skB⟩
end
section
open Go.RowKit
structure NF where
 kind:Int
 m:Mt
 on:Int
 cen:V3
 mesh:Int
 sty:Sy
def nf0:NF:=⟨0,L6,0,zl,0,sy0⟩
structure Nd where
 f:NF
 far:List Int
def nd0:Nd:=⟨nf0,[]⟩
structure NH where
 f:NF
 ao:Option Addr
 n:Nat
 cap:Nat
def nh0:NH:=⟨nf0,none,0,0⟩
def fN (h:NH):List Value:=.int .u8 h.f.kind::.int .i64 h.f.m.m.a.x::.int .i64 h.f.m.m.a.y::.int .i64 h.f.m.m.a.z::.int .i64 h.f.m.m.b.x::.int .i64 h.f.m.m.b.y::.int .i64 h.f.m.m.b.z::.int .i64 h.f.m.m.c.x::.int .i64 h.f.m.m.c.y::.int .i64 h.f.m.m.c.z::.int .i64 h.f.m.t.x::.int .i64 h.f.m.t.y::.int .i64 h.f.m.t.z::.int .u16 h.f.on::.int .i64 h.f.cen.x::.int .i64 h.f.cen.y::.int .i64 h.f.cen.z::.slice h.ao h.n h.cap::.int .i64 h.f.mesh::.int .u8 h.f.sty.s0::.int .u8 h.f.sty.s1::.int .u8 h.f.sty.s2::.int .u8 h.f.sty.s3::.int .u8 h.f.sty.s4::.int .u8 h.f.sty.l.r::.int .u8 h.f.sty.l.g::.int .u8 h.f.sty.l.b::.int .u8 h.f.sty.l.a::.int .i64 h.f.sty.l.tx::.int .u8 h.f.sty.l.cu::.int .i64 h.f.sty.l.bi::.bool h.f.sty.l.bl::.int .i64 h.f.sty.l.bn::[]
def vN (h:NH):Value:=.agg (List.toArray (.int .u8 h.f.kind::.int .i64 h.f.m.m.a.x::.int .i64 h.f.m.m.a.y::.int .i64 h.f.m.m.a.z::.int .i64 h.f.m.m.b.x::.int .i64 h.f.m.m.b.y::.int .i64 h.f.m.m.b.z::.int .i64 h.f.m.m.c.x::.int .i64 h.f.m.m.c.y::.int .i64 h.f.m.m.c.z::.int .i64 h.f.m.t.x::.int .i64 h.f.m.t.y::.int .i64 h.f.m.t.z::.int .u16 h.f.on::.int .i64 h.f.cen.x::.int .i64 h.f.cen.y::.int .i64 h.f.cen.z::.slice h.ao h.n h.cap::.int .i64 h.f.mesh::.int .u8 h.f.sty.s0::.int .u8 h.f.sty.s1::.int .u8 h.f.sty.s2::.int .u8 h.f.sty.s3::.int .u8 h.f.sty.s4::.int .u8 h.f.sty.l.r::.int .u8 h.f.sty.l.g::.int .u8 h.f.sty.l.b::.int .u8 h.f.sty.l.a::.int .i64 h.f.sty.l.tx::.int .u8 h.f.sty.l.cu::.int .i64 h.f.sty.l.bi::.bool h.f.sty.l.bl::.int .i64 h.f.sty.l.bn::[]))
theorem ag0:∀x,(fN x).length=33:=fun _=>rfl
theorem aa4:∀x,∀u∈fN x,u.oneCell'=true:=by
 intro x u hu;simp only[fN,List.mem_cons,List.not_mem_nil,or_false]at hu;rcases hu with rfl|rfl|rfl|rfl|rfl|rfl|rfl|rfl|rfl|rfl|rfl|rfl|rfl|rfl|rfl|rfl|rfl|rfl|rfl|rfl|rfl|rfl|rfl|rfl|rfl|rfl|rfl|rfl|rfl|rfl|rfl|rfl|rfl<;>rfl
structure NfB (f:NF):Prop where
 kind:0≤f.kind∧f.kind≤255
 on:0≤f.on∧f.on≤65535
 sty:SyB f.sty
structure G0 (w:World) (h:NH) (n:Nd):Prop where
 f:h.f=n.f
 b:NfB n.f
 le:h.n≤9223372036854775807
 cap:h.n≤h.cap
 nil:h.ao=none→h.n=0∧h.cap=0
 lay:Lay fI w h.ao h.n n.far
theorem G0.ex{w w':World}{h:NH}{n:Nd}(a:G0 w h n)(hw:∃x,w'=plus w x):G0 w' h n:=⟨a.f,a.b,a.le,a.cap,a.nil,a.lay.ex hw⟩
structure ae6 (w:World) (hs:List NH) (ns:List Nd):Prop where
 len:hs.length=ns.length
 one:∀k,k<hs.length→G0 w (nth nh0 hs k) (nth nd0 ns k)
theorem ae6.ex{w w':World}{hs:List NH}{ns:List Nd}(a:ae6 w hs ns)(hw:∃x,w'=plus w x):ae6 w' hs ns:=⟨a.len,fun k hk=>(a.one k hk).ex hw⟩
def fMh (h:MH):List Value:=[.slice h.va h.vn h.vc,.slice h.ua h.un h.uc,.slice h.pa h.pn h.pc]
def mh0:MH:=⟨none,0,0,none,0,0,none,0,0⟩
def ms0:Ms:=⟨[],[],[]⟩
theorem Z1:∀x,(fMh x).length=3:=fun _=>rfl
theorem a1G:∀x,∀u∈fMh x,u.oneCell'=true:=by intro x u hu;simp only[fMh,List.mem_cons,List.not_mem_nil,or_false]at hu;rcases hu with rfl|rfl|rfl<;>rfl
theorem a0p{w:World}{g off n k:Nat}{l:List MH}(hl:l.length=n)(h:∀j u,(l.flatMap fMh)[j]?=some u→w.cell? ⟨g,off+j,none⟩=some u)(hk:k<n):
  w.cell? ⟨g,off+k*3,none⟩=some (.slice (nth mh0 l k).va (nth mh0 l k).vn (nth mh0 l k).vc)∧w.cell? ⟨g,off+k*3+1,none⟩=some (.slice (nth mh0 l k).ua (nth mh0 l k).un (nth mh0 l k).uc)∧w.cell? ⟨g,off+k*3+2,none⟩=some (.slice (nth mh0 l k).pa (nth mh0 l k).pn (nth mh0 l k).pc):=by
 have h0:=A6 (d:=mh0) hl Z1 h k 0 _ hk dc0 rfl;have h1:=A6 (d:=mh0) hl Z1 h k 1 _ hk dc0 rfl;have h2:=A6 (d:=mh0) hl Z1 h k 2 _ hk dc0 rfl;rw[Nat.add_zero]at h0;rw[←Nat.add_assoc]at h1 h2;exact⟨h0,h1,h2⟩
structure QC (w:World) (hs:List MH) (ps:List (List PH)) (ms:List Ms):Prop where
 len:hs.length=ms.length
 one:∀k,k<hs.length→I6 w (nth mh0 hs k) (nth [] ps k) (nth ms0 ms k)
theorem QC.ex{w w':World}{hs:List MH}{ps:List (List PH)}{ms:List Ms}(a:QC w hs ps ms)(hw:∃x,w'=plus w x):QC w' hs ps ms:=⟨a.len,fun k hk=>(a.one k hk).ex hw⟩
structure Tp where
 w:Int
 h:Int
 l:List Cl
def tp0:Tp:=⟨0,0,[]⟩
structure ak5 (w:World) (h:TH) (t:Tp):Prop where
 we:h.w=t.w
 he:h.h=t.h
 tx:a7p w h t.l
theorem ak5.ex{w w':World}{h:TH}{t:Tp}(a:ak5 w h t)(hw:∃x,w'=plus w x):ak5 w' h t:=⟨a.we,a.he,a.tx.ex hw⟩
structure ac4 (w:World) (hs:List TH) (ts:List Tp):Prop where
 len:hs.length=ts.length
 one:∀k,k<hs.length→ak5 w (nth th0 hs k) (nth tp0 ts k)
theorem ac4.ex{w w':World}{hs:List TH}{ts:List Tp}(a:ac4 w hs ts)(hw:∃x,w'=plus w x):ac4 w' hs ts:=⟨a.len,fun k hk=>(a.one k hk).ex hw⟩
structure Sc where
 g:Gr
 ns:List Nd
 ms:List Ms
 ts:List Tp
 root:Int × Int
def sc0:Sc:=⟨⟨[],[]⟩,[],[],[],(0,0)⟩
structure SH where
 ga:Option Addr
 gn:Nat
 gc:Nat
 ka:Option Addr
 kn:Nat
 kc:Nat
 na:Option Addr
 nn:Nat
 nc:Nat
 ma:Option Addr
 mn:Nat
 mc:Nat
 ta:Option Addr
 tn:Nat
 tc:Nat
 r0:Int
 r1:Int
def vS (h:SH):Value:=.agg #[.slice h.ga h.gn h.gc,.slice h.ka h.kn h.kc,.slice h.na h.nn h.nc,.slice h.ma h.mn h.mc,.slice h.ta h.tn h.tc,.int .i64 h.r0,.int .i64 h.r1]
structure SX where
 gr:List RH
 nh:List NH
 mh:List MH
 ph:List (List PH)
 th:List TH
structure QK (w:World) (h:SH) (x:SX) (s:Sc):Prop where
 nl:Lay fN w h.na h.nn x.nh
 ns:ae6 w x.nh s.ns
 ml:Lay fMh w h.ma h.mn x.mh
 ms:QC w x.mh x.ph s.ms
 tl:Lay fTh w h.ta h.tn x.th
 ts:ac4 w x.th s.ts
 n1:h.nn≤9223372036854775807
 n2:h.mn≤9223372036854775807
 n3:h.tn≤9223372036854775807
 root:s.root=(h.r0,h.r1)
theorem QK.ex{w w':World}{h:SH}{x:SX}{s:Sc}(a:QK w h x s)(hw:∃y,w'=plus w y):QK w' h x s:=
 ⟨a.nl.ex hw,a.ns.ex hw,a.ml.ex hw,a.ms.ex hw,a.tl.ex hw,a.ts.ex hw,a.n1,a.n2,a.n3,a.root⟩
end
section
open Go.RowKit
def flo (a b:Int):Int × Int:=if 1≤b then(a / b,0)else(0,2)
def cei (a b:Int):Int × Int:=if 1≤b then(up a b,0)else(0,2)
end
section
open Go.RowKit
end
section
open Go.RowKit
end
section
@[local go_sem] theorem a8f (a b c:Value) (w:World):(Instr.index 40 (.agg #[a,b,c]) (.int .i64 0)).run Tryz.prog w=.ok a w:=kr0
@[local go_sem] theorem a7U (a b c:Value) (w:World):(Instr.index 40 (.agg #[a,b,c]) (.int .i64 1)).run Tryz.prog w=.ok b w:=kr0
@[local go_sem] theorem a7x (a b c:Value) (w:World):(Instr.index 40 (.agg #[a,b,c]) (.int .i64 2)).run Tryz.prog w=.ok c w:=kr0
@[local go_sem] theorem a7J (a b c d e f g h i:Value) (w:World):(Instr.index 41 (.agg #[a,b,c,d,e,f,g,h,i]) (.int .i64 0)).run Tryz.prog w=.ok (.agg #[a,b,c]) w:=kr0
@[local go_sem] theorem a8k (a b c d e f g h i:Value) (w:World):(Instr.index 41 (.agg #[a,b,c,d,e,f,g,h,i]) (.int .i64 1)).run Tryz.prog w=.ok (.agg #[d,e,f]) w:=kr0
@[local go_sem] theorem a7D (a b c d e f g h i:Value) (w:World):(Instr.index 41 (.agg #[a,b,c,d,e,f,g,h,i]) (.int .i64 2)).run Tryz.prog w=.ok (.agg #[g,h,i]) w:=kr0
theorem G4(a b c l:Int)(h0:0≤l)(h1:l≤1000000)(w:World):
  Calls Tryz.prog 148 #[.agg #[.int .i64 a,.int .i64 b,.int .i64 c],.int .i64 l] w fun e w'=>e=.returned (.bool (Q8 ⟨a,b,c⟩ l))∧Below w.heap.size w w':=by
 rcases ac6 a l with⟨a1,a2,a3⟩|⟨a1,a3⟩|⟨a1,a2,a3⟩
 ·rcases ac6 b l with⟨b1,b2,b3⟩|⟨b1,b3⟩|⟨b1,b2,b3⟩
  ·rcases ac6 c l with⟨c1,c2,c3⟩|⟨c1,c3⟩|⟨c1,c2,c3⟩
   all_goals
    rw[Q8,a3,b3,c3];clear a3 b3 c3;go_enter Tryz.func148,Tryz.ntmps148;go_wp2;go_rounds 4;go_ret;exact⟨rfl,skB⟩
  all_goals
   rw[Q8,a3,b3];clear a3 b3;go_enter Tryz.func148,Tryz.ntmps148;go_wp2;go_rounds 4;go_ret;exact⟨rfl,skB⟩
 all_goals
  rw[Q8,a3];clear a3;go_enter Tryz.func148,Tryz.ntmps148;go_wp2;go_rounds 4;go_ret;exact⟨rfl,skB⟩
theorem ZZ(x y z:Int)(w:World):
  Calls Tryz.prog 149 #[.agg #[.int .i64 x,.int .i64 y,.int .i64 z]] w fun e w'=>e=.returned (.agg #[.int .i64 x,.int .i64 y,.int .i64 z])∧Below w.heap.size w w':=by
 go_enter Tryz.func149,Tryz.ntmps149;go_wp2;exact bodyPost_ret (v:=.agg #[.int .i64 x,.int .i64 y,.int .i64 z]) (by simp[results,Tryz.results149,go_sem,↓IntWalk.iteOmega]) rfl ⟨rfl,skB⟩
theorem X6(a b c d o f g u i l:Int)(h0:0≤l)(h1:l≤1000000)(w:World):
  Calls Tryz.prog 147 #[.agg #[.int .i64 a,.int .i64 b,.int .i64 c,.int .i64 d,.int .i64 o,.int .i64 f,.int .i64 g,.int .i64 u,.int .i64 i],.int .i64 l] w fun e w'=>e=.returned (.bool (Zp ⟨⟨a,b,c⟩,⟨d,o,f⟩,⟨g,u,i⟩⟩ l))∧Below w.heap.size w w':=by
 cases r1:Q8 ⟨a,b,c⟩ l
 ·rw[show Zp ⟨⟨a,b,c⟩,⟨d,o,f⟩,⟨g,u,i⟩⟩ l=false by simp[Zp,r1]];go_enter Tryz.func147,Tryz.ntmps147;go_wp2;refine wp_loop_rounds 4 ?_
  repeat any_goals (rw[rounds_succ];go_wp2_with (go_at_call 148;refine pm0 (G4 _ _ _ _ om0 om0 _) fun nx=>?_))
  go_ret;exact⟨rfl,skB⟩
 ·cases r2:Q8 ⟨d,o,f⟩ l
  ·rw[show Zp ⟨⟨a,b,c⟩,⟨d,o,f⟩,⟨g,u,i⟩⟩ l=false by simp[Zp,r2]];go_enter Tryz.func147,Tryz.ntmps147;go_wp2;refine wp_loop_rounds 4 ?_
   repeat any_goals (rw[rounds_succ];go_wp2_with (go_at_call 148;refine pm0 (G4 _ _ _ _ om0 om0 _) fun nx=>?_))
   go_ret;exact⟨rfl,skB⟩
  ·cases r3:Q8 ⟨g,u,i⟩ l
   ·rw[show Zp ⟨⟨a,b,c⟩,⟨d,o,f⟩,⟨g,u,i⟩⟩ l=false by simp[Zp,r3]];go_enter Tryz.func147,Tryz.ntmps147;go_wp2;refine wp_loop_rounds 4 ?_
    repeat any_goals (rw[rounds_succ];go_wp2_with (go_at_call 148;refine pm0 (G4 _ _ _ _ om0 om0 _) fun nx=>?_))
    go_ret;exact⟨rfl,skB⟩
   ·rw[show Zp ⟨⟨a,b,c⟩,⟨d,o,f⟩,⟨g,u,i⟩⟩ l=true by simp[Zp,r1,r2,r3]];go_enter Tryz.func147,Tryz.ntmps147;go_wp2;refine wp_loop_rounds 4 ?_
    repeat any_goals (rw[rounds_succ];go_wp2_with (go_at_call 148;refine pm0 (G4 _ _ _ _ om0 om0 _) fun nx=>?_))
    go_ret;exact⟨rfl,skB⟩
end
end Go.Proofs.YtcekcihijdipoaaGreat
