/- A pack of texts: Arena9, Rel5. -/
import Derived.Test.YtcekcihijdipoaaGreatPD16
namespace Go.Proofs.YtcekcihijdipoaaGreat
set_option maxRecDepth 100000
set_option maxHeartbeats 16000000
set_option linter.unusedVariables false
section
open Go.RowKit Go.ChangeShapes Go.WideShapes Go.ChangeAt
set_option linter.unusedSimpArgs false
attribute [local go_sem] qn qZ A2 zg zz zA t5 qJ zf qO qD t6
def a9a (i:Nat):List Nat:=match i with|0=>[55]|1=>[56]|4=>[4]|_=>[]
def at5 (g1 m c1 k:Nat) (gn:Int) (b1:Nat) (o1:Obj) (b2:Nat) (o2:Obj) (i:Nat) (t:Nat→Value) (w':World):Prop:=match i with
 |0=>t 55=.agg #[.slice (some ⟨g1,0,none⟩) m c1]
 |1=>t 56=.agg #[.int .i64 k,.int .i64 gn]
 |2=>w'.heap[b1]?=some o1
 |3=>w'.heap[b2]?=some o2
 |4=>t 4=.int .i64 0
 |_=>True
theorem a04(g1 m c1 k:Nat)(gn:Int)(b1:Nat)(o1:Obj)(b2:Nat)(o2:Obj):∀i t t' w w',at5 g1 m c1 k gn b1 o1 b2 o2 i t w→(∀s∈a9a i,t' s=t s)→Two b1 o1 b2 o2 w w'→at5 g1 m c1 k gn b1 o1 b2 o2 i t' w':=by
 intro i t t' w w' h hs' ht
 match i with
 |0=>exact(hs' 55 dc0).trans h
 |1=>exact(hs' 56 dc0).trans h
 |2=>exact(QT ht h).elim id id
 |3=>exact(QI ht h).elim id id
 |4=>exact(hs' 4 dc0).trans h
 |i+5=>trivial
theorem ap6(ao:Option Addr)(n cap:Nat)(l:List Sl)(w:World)(hl:Lay fS w ao n l)(hn:n≤1000):
  Calls Tryz.prog 161 #[.agg #[.slice ao n cap]] w fun e w'=>a75 w (U2 l) (mkS l) (mkG l) (H7 l) e w':=by
 have hlen:=hl.len;have hmf:∀(fn:Fn) (first cap:Array Value) (w:World),(Instr.makeFunc fn first cap).run Tryz.prog w=.ok (.func fn first cap) w:=fun _ _ _ _=>rfl
 cases ho:S5 l
 ·have hC:E7 l=8:=by rw[E7,ho];rfl
  have he:H7 l=8:=by rw[H7,ho];rfl
  rw[mkS,mkG,U2,he];go_enter Tryz.func161,Tryz.ntmps161;go_wp2_with (go_at_call 128;refine pm0 (C0 _ _ _ l _ (hl.ex sk0) om0) fun nx=>?_;rw[hC]);exact bodyPost_ret (v:=.tuple #[.agg #[.slice none 0 0],.agg #[.int .i64 0,.int .i64 0],.int .i64 8]) (by simp[results,Tryz.results161,go_sem,↓IntWalk.iteOmega]) rfl ⟨none,0,rfl,sk0,zd⟩
 have hC:E7 l=0:=by rw[E7,ho];rfl
 have h128:=QB ho;have hfl:=QS l;obtain⟨k,hfa⟩:∃k,B3 l=k:=⟨_,rfl⟩;by_cases hkl:k<n
 ·have he:H7 l=0:=by rw[H7,if_pos ho,if_pos om0]
  have hml:qP l=l.set k ⟨(nth dSl l k).gen+1,true⟩:=by rw[qP,if_pos om0,hfa]
  have hmg:zQ l=(nth dSl l k).gen+1:=by rw[zQ,if_pos om0,hfa]
  have hmS:zb l=k:=by rw[zb,hfa]
  have hge:=ZA ho (k:=k) om0;have i1:¬(k:Int)=128:=om0;have d1:((k:Int)==128)=false:=by rw[beq_eq_false_iff_ne];exact i1
  have i2:¬(k:Int)=(n:Int):=om0;have d2:((k:Int)==(n:Int))=false:=by rw[beq_eq_false_iff_ne];exact i2
  have iwg:IntKind.i64.wrap ((nth dSl l k).gen+1)=(nth dSl l k).gen+1:=L5 om0;go_enter Tryz.func161,Tryz.ntmps161;go_upto_region 10 with(first|(go_at_call 128;refine pm0 (C0 _ _ _ l _ (hl.ex sk0) om0) fun nx=>?_;rw[hC])|(go_at_call 177;refine(A4 (Zg _ _ _ l _ (hl.ex sk0) om0)).mono ?_;rintro e w' ⟨rfl,nf,rfl⟩;rw[hfa])|(go_at_call 81;refine(W7 _ _ _ l _ (hl.ex sk0) om0).mono ?_;rintro e w1 ⟨a1,c1,rfl,hw1,o1⟩;have hr1:w1.heap[w.heap.size+1]?=some (.cells #[.slice none 0 0] 24):=i7 (w:=(w.alloc (.cells #[.slice ao n cap] 24)).alloc (.cells #[.slice none 0 0] 24)) sn0 (by rw[qe,if_pos (by simp[go_sem])]);have hr2:w1.heap[w.heap.size+1+1]?=some (.cells #[.int .i64 0,.int .i64 0] 32):=i7 (w:=((w.alloc (.cells #[.slice ao n cap] 24)).alloc (.cells #[.slice none 0 0] 24)).alloc (.cells #[.int .i64 0,.int .i64 0] 32)) sn0 (by rw[qe,if_pos (by simp[go_sem])]);have hrl:=qi hr2));obtain⟨g1,cur0,rfl,_,_,_⟩:=o1.blk om0;have hq:(w1.alloc (.cells #[.slice (some ⟨g1,0,none⟩) n c1] 24)).heap[w1.heap.size]?=some (.cells #[.slice (some ⟨g1,0,none⟩) n c1] 24):=by rw[qe,if_pos rfl]
  have hr1':=i7 (qE (o:=(.cells #[.slice (some ⟨g1,0,none⟩) n c1] 24)) (j5 w1)) hr1;have hr2':=i7 (qE (o:=(.cells #[.slice (some ⟨g1,0,none⟩) n c1] 24)) (j5 w1)) hr2;have o2:=(o1.ex (qE (o:=(.cells #[.slice (some ⟨g1,0,none⟩) n c1] 24)) (j5 w1))).base (T':=w) (by simp[go_sem];omega);have hx2:∃y,w1.alloc (.cells #[.slice (some ⟨g1,0,none⟩) n c1] 24)=plus w y:=sn0;clear hr1 hr2 o1;generalize w1.alloc (.cells #[.slice (some ⟨g1,0,none⟩) n c1] 24)=w2 at*;have hKM:k<n:=hkl;have iK:(k:Int)<((n:Nat):Int):=om0;obtain⟨_,cur,eqa,hgw,hb1,_⟩:=o2.blk om0;cases eqa;obtain⟨_,_,eqa,hlt1,hc1⟩:=o2.lay.some om0;cases eqa;obtain⟨x0,x1⟩:=Y3 o2.1 hc1 (k:=k) hKM;rw[Nat.zero_add]at x0 x1;have y0:=i6 (i:=0) hq rfl;have z0:=j9 (i:=k*2) hb1;have z1:=j9 (i:=k*2+1) hb1;have hlq:=qi hq;have n1:g1≠w.heap.size+1:=by
   intro e0;rw[e0,hr1']at hb1;cases hb1
  have n2:g1≠w.heap.size+1+1:=by
   intro e0;rw[e0,hr2']at hb1;cases hb1
  have nq:g1≠w1.heap.size:=by
   intro e0;rw[e0,hq]at hb1;cases hb1
  go_wp2;refine aj4 6 kr0 kr0 ?_;simp only[List.take_succ_cons,List.take_zero,List.drop_succ_cons,List.drop_zero]
  (repeat(go_big_quiet_step ((go_at_call 168;exact C8 (H3 _ _ _)))))
  refine wpQuiet_nil ?_;rintro _ ⟨x2,rfl⟩;go_wp2;have o3:=(o2.set_self (u:=.int .i64 (((nth dSl l k).gen+1))) k 0 ⟨((nth dSl l k).gen+1),(nth dSl l k).live⟩ dSl hKM a1s dc0 rfl).set_self (u:=.bool true) k 1 ⟨((nth dSl l k).gen+1),true⟩ dSl hKM a1s dc0 (by rw[qR (by rw[o2.1];exact hKM),if_pos rfl];rfl);rw[List.set_set,Nat.add_zero]at o3;have r1:((w2.setCell ⟨g1,k*2,none⟩ (.int .i64 ((nth dSl l k).gen+1))).setCell ⟨g1,k*2+1,none⟩ (.bool true)).heap[w.heap.size+1]?=_:=(qd n1).trans ((qd n1).trans hr1');have r2:((w2.setCell ⟨g1,k*2,none⟩ (.int .i64 ((nth dSl l k).gen+1))).setCell ⟨g1,k*2+1,none⟩ (.bool true)).heap[w.heap.size+1+1]?=_:=(qd n2).trans ((qd n2).trans hr2');have rq:((w2.setCell ⟨g1,k*2,none⟩ (.int .i64 ((nth dSl l k).gen+1))).setCell ⟨g1,k*2+1,none⟩ (.bool true)).heap[w1.heap.size]?=_:=(qd nq).trans ((qd nq).trans hq);have hsz2:((w2.setCell ⟨g1,k*2,none⟩ (.int .i64 ((nth dSl l k).gen+1))).setCell ⟨g1,k*2+1,none⟩ (.bool true)).heap.size=w2.heap.size:=by rw[B9,B9]
  have hx3:∃y,(w2.setCell ⟨g1,k*2,none⟩ (.int .i64 ((nth dSl l k).gen+1))).setCell ⟨g1,k*2+1,none⟩ (.bool true)=plus w y:=qb (qb hx2 hgw) hgw;clear x0 x1 y0 z0 z1 hb1 hc1 hr1' hr2' hq o2 hx2;generalize (w2.setCell ⟨g1,k*2,none⟩ (.int .i64 ((nth dSl l k).gen+1))).setCell ⟨g1,k*2+1,none⟩ (.bool true)=w5 at*;have hh:(w5.alloc (.cells #[.int .i64 k,.int .i64 ((nth dSl l k).gen+1)] 32)).heap[w2.heap.size]?=some (.cells #[.int .i64 k,.int .i64 ((nth dSl l k).gen+1)] 32):=by rw[qe,if_pos hsz2.symm]
  have hh':=i7 (zt (y:=x2) (j5 _)) hh;have r1':=i7 (zt (y:=x2) (qE (o:=(.cells #[.int .i64 k,.int .i64 ((nth dSl l k).gen+1)] 32)) (j5 w5))) r1;have r2':=i7 (zt (y:=x2) (qE (o:=(.cells #[.int .i64 k,.int .i64 ((nth dSl l k).gen+1)] 32)) (j5 w5))) r2;have rq':=i7 (zt (y:=x2) (qE (o:=(.cells #[.int .i64 k,.int .i64 ((nth dSl l k).gen+1)] 32)) (j5 w5))) rq;have o3':=o3.ex (zt (y:=x2) (qE (o:=(.cells #[.int .i64 k,.int .i64 ((nth dSl l k).gen+1)] 32)) (j5 w5)));have hx3':=zt (y:=x2) (qE (o:=(.cells #[.int .i64 k,.int .i64 ((nth dSl l k).gen+1)] 32)) hx3);clear r1 r2 rq o3 hx3 hh;generalize plus (w5.alloc (.cells #[.int .i64 k,.int .i64 ((nth dSl l k).gen+1)] 32)) x2=w3 at*;have f0:=i6 (i:=0) rq' rfl;have f1:=i6 (i:=0) hh' rfl;have f2:=i6 (i:=1) hh' rfl;have nb:w.heap.size+1≠w.heap.size+1+1:=om0;refine M5 5 a9a (at5 g1 (n) c1 k (((nth dSl l k).gen+1)) (w.heap.size+1) (.cells #[.slice (some ⟨g1,0,none⟩) n c1] 24) (w.heap.size+1+1) (.cells #[.int .i64 k,.int .i64 ((nth dSl l k).gen+1)] 32)) (Two (w.heap.size+1) (.cells #[.slice (some ⟨g1,0,none⟩) n c1] 24) (w.heap.size+1+1) (.cells #[.int .i64 k,.int .i64 ((nth dSl l k).gen+1)] 32)) R0 (V5 _) kr0 kr0 dc0 (a04 _ _ _ _ _ _ _ _ _) ?steps ?fin
  case steps=>
   refine⟨?_,?_,?_,?_,?_,trivial⟩<;>intro a w' hg hfree hdeep
   ·have f7':=hfree 7 kr0;have e0:=A1 hg f0 om0 om0;simp only[at5,got]at f7';simp[go_sem]at f7';unfold Oper.wp;simp[go_sem,execOp,Act.eval,↓IntWalk.iteOmega,f7',e0];exact⟨_,rfl,zL _,by simp[at5,upd]⟩
   ·have f8':=hfree 8 kr0;have e1:=A1 hg f1 om0 om0;have e2:=A1 hg f2 om0 om0;simp only[at5,got]at f8';simp[go_sem]at f8';unfold Oper.wp;simp[go_sem,execOp,Act.eval,↓IntWalk.iteOmega,f8',e1,e2];exact⟨_,rfl,zL _,by simp[at5,upd]⟩
   ·have f2':=hfree 2 kr0;have d0:=hdeep 0 kr0;simp only[at5,got]at f2' d0;simp[go_sem]at f2';rcases QT hg r1' with hb|hb
    ·have c0':=i6 (i:=0) hb rfl;have z0':=j9 (i:=0) hb;unfold Oper.wp;simp[go_sem,execOp,Act.eval,f2',d0,c0',z0'];exact⟨Zn nb (j7 hb),undef,(j7 hb)⟩
    ·have c0':=i6 (i:=0) hb rfl;have z0':=j9 (i:=0) hb;unfold Oper.wp;simp[go_sem,execOp,Act.eval,f2',d0,c0',z0'];exact⟨Zn nb (j7 hb),undef,(j7 hb)⟩
   ·have f3':=hfree 3 kr0;have d1:=hdeep 1 kr0;simp only[at5,got]at f3' d1;simp[go_sem]at f3';rcases QI hg r2' with hb|hb
    ·have c0':=i6 (i:=0) hb rfl;have z0':=j9 (i:=0) hb;have c1':=i6 (i:=1) hb rfl;have z1':=j9 (i:=1) hb;unfold Oper.wp;simp[go_sem,execOp,Act.eval,f3',d1,c0',z0',c1',z1'];exact⟨J0 nb (j7 (j7 hb)),undef,(j7 (j7 hb))⟩
    ·have c0':=i6 (i:=0) hb rfl;have z0':=j9 (i:=0) hb;have c1':=i6 (i:=1) hb rfl;have z1':=j9 (i:=1) hb;unfold Oper.wp;simp[go_sem,execOp,Act.eval,f3',d1,c0',z0',c1',z1'];exact⟨J0 nb (j7 (j7 hb)),undef,(j7 (j7 hb))⟩
   ·unfold Oper.wp;simp[go_sem,execOp,Act.eval,↓IntWalk.iteOmega];exact⟨_,rfl,zL _,by simp[at5,upd]⟩
  case fin=>
   rintro t w4 hg hΦ;have h9:=hΦ 2 dc0;have h10:=hΦ 3 dc0;have h11:=hΦ 4 dc0;simp only[at5]at h9 h10 h11;have o4:=o3'.two hg r1' r2' dc0 dc0;have hx4:=al7 hg hx3' om0 om0;simp only[zh,List.take_succ_cons,List.take_zero,List.take_nil,Act.put];simp only[List.setIfInBounds_toArray,List.set_cons_succ,List.set_cons_zero,h11];simp only[List.drop_succ_cons,List.drop_zero];clear hΦ hg o3' hx3' f0 f1 f2 r1' r2' rq' hh';have c0:=i6 (i:=0) h9 rfl;have c1':=i6 (i:=0) h10 rfl;have c2':=i6 (i:=1) h10 rfl;go_wp2;have hpost:a75 w (U2 l) (mkS l) (mkG l) (H7 l) (.returned (.tuple #[.agg #[.slice (some ⟨g1,0,none⟩) n c1],.agg #[.int .i64 k,.int .i64 ((nth dSl l k).gen+1)],.int .i64 0])) w4:=by
    rw[U2,mkS,mkG,if_pos he,if_pos he,if_pos he,he,hml,hmg,hmS];exact⟨some ⟨g1,0,none⟩,c1,by rw[o4.1],hx4,by rw[o4.1];exact o4⟩
   exact bodyPost_ret (v:=.tuple #[.agg #[.slice (some ⟨g1,0,none⟩) n c1],.agg #[.int .i64 k,.int .i64 ((nth dSl l k).gen+1)],.int .i64 0]) (by simp[results,Tryz.results161,go_sem,c0,c1',c2']) rfl hpost
 obtain rfl:k=n:=om0;by_cases h8:128≤k
 ·have d8:((k:Int)==128)=true:=by rw[beq_iff_eq];omega
  have he:H7 l=9:=by rw[H7,if_pos ho,if_neg om0,if_pos om0]
  rw[mkS,mkG,U2,he];go_enter Tryz.func161,Tryz.ntmps161;go_wp2_with (first|(go_at_call 128;refine pm0 (C0 _ _ _ l _ (hl.ex sk0) om0) fun nx=>?_;rw[hC])|(go_at_call 177;refine(A4 (Zg _ _ _ l _ (hl.ex sk0) om0)).mono ?_;rintro e w' ⟨rfl,nf,rfl⟩;rw[hfa]));exact bodyPost_ret (v:=.tuple #[.agg #[.slice none 0 0],.agg #[.int .i64 0,.int .i64 0],.int .i64 9]) (by simp[results,Tryz.results161,go_sem,↓IntWalk.iteOmega]) rfl ⟨none,0,rfl,sk0,zd⟩
 ·have i8:¬(k:Int)=128:=om0;have d8:((k:Int)==128)=false:=by rw[beq_eq_false_iff_ne];exact i8
  have he:H7 l=0:=by rw[H7,if_pos ho,if_neg om0,if_neg om0]
  have hml:qP l=(l++[dSl]).set k ⟨1,true⟩:=by rw[qP,if_neg om0,List.set_append_right _ _ om0,hlen,Nat.sub_self];rfl
  have hmg:zQ l=1:=by rw[zQ,if_neg om0]
  have hmS:zb l=k:=by rw[zb,hfa]
  go_enter Tryz.func161,Tryz.ntmps161;go_upto_region 10 with(first|(go_at_call 128;refine pm0 (C0 _ _ _ l _ (hl.ex sk0) om0) fun nx=>?_;rw[hC])|(go_at_call 177;refine(A4 (Zg _ _ _ l _ (hl.ex sk0) om0)).mono ?_;rintro e w' ⟨rfl,nf,rfl⟩;rw[hfa])|(go_at_call 81;refine(W7 _ _ _ l _ (hl.ex sk0) om0).mono ?_;rintro e w1 ⟨a1,c1,rfl,hw1,o1⟩;have hr1:w1.heap[w.heap.size+1]?=some (.cells #[.slice none 0 0] 24):=i7 (w:=(w.alloc (.cells #[.slice ao k cap] 24)).alloc (.cells #[.slice none 0 0] 24)) sn0 (by rw[qe,if_pos (by simp[go_sem])]);have hr2:w1.heap[w.heap.size+1+1]?=some (.cells #[.int .i64 0,.int .i64 0] 32):=i7 (w:=((w.alloc (.cells #[.slice ao k cap] 24)).alloc (.cells #[.slice none 0 0] 24)).alloc (.cells #[.int .i64 0,.int .i64 0] 32)) sn0 (by rw[qe,if_pos (by simp[go_sem])]);have hrl:=qi hr2)|(at_builtin;refine qW (T:=w) rfl _ _ rfl a8t a1s a8W rfl sn0 ((o1.base (T':=w) (by simp[go_sem];omega)).ex sk0) rfl (l2:=[dSl]) ⟨rfl,.inr ⟨_,0,rfl,by(simp[go_sem];try omega),fun jj u hu=>by match jj,hu with|0,hu=>(simp[fS,dSl]at hu;subst hu;simp[go_sem,↓IntWalk.iteOmega])|1,hu=>(simp[fS,dSl]at hu;subst hu;simp[go_sem,↓IntWalk.iteOmega])|jj+2,hu=>simp[fS,dSl]at hu⟩⟩ om0 dc0 ?_;intro a4 c4 w4 o4 hx4 hgr4;have bx:=t8 (g:=w1.heap.size) hgr4 ((o1.base (T':=w) (by simp[go_sem];omega)).ex sk0) (i7 (w:=w1.alloc (.cells #[.slice a1 k c1] 24)) sk0 (by rw[qe,if_pos rfl])) dc0;have b1:=t8 hgr4 ((o1.base (T':=w) (by simp[go_sem];omega)).ex sk0) (i7 sk0 hr1) dc0;have b2:=t8 hgr4 ((o1.base (T':=w) (by simp[go_sem];omega)).ex sk0) (i7 sk0 hr2) dc0;have u3:=i6 (i:=0) bx rfl;have v3:=j9 (i:=0) bx;have lx:=qi bx;have l2:=qi b2));obtain⟨g1,cur0,rfl,_,hb4,_⟩:=o4.blk om0;have n4:g1≠w1.heap.size:=by
   intro e0;rw[e0,bx]at hb4;cases hb4
  have hq:(w4.setCell ⟨w1.heap.size,0,none⟩ (.slice (some ⟨g1,0,none⟩) (k+1) c4)).heap[w1.heap.size]?=some (.cells #[.slice (some ⟨g1,0,none⟩) (k+1) c4] 24):=j7 bx;have hr1':(w4.setCell ⟨w1.heap.size,0,none⟩ (.slice (some ⟨g1,0,none⟩) (k+1) c4)).heap[w.heap.size+1]?=_:=(qd om0).trans b1;have hr2':(w4.setCell ⟨w1.heap.size,0,none⟩ (.slice (some ⟨g1,0,none⟩) (k+1) c4)).heap[w.heap.size+1+1]?=_:=(qd om0).trans b2;have o2:=o4.set_other (i:=0) (u:=.slice (some ⟨g1,0,none⟩) (k+1) c4) bx dc0;have hx2:∃y,w4.setCell ⟨w1.heap.size,0,none⟩ (.slice (some ⟨g1,0,none⟩) (k+1) c4)=plus w y:=qb hx4 om0;clear u3 v3 bx b1 b2 o4 hx4 hgr4 hb4 n4;generalize w4.setCell ⟨w1.heap.size,0,none⟩ (.slice (some ⟨g1,0,none⟩) (k+1) c4)=w2 at*;have hKM:k<k+1:=Nat.lt_succ_self k;have iK:(k:Int)<(((k+1):Nat):Int):=om0;obtain⟨_,cur,eqa,hgw,hb1,_⟩:=o2.blk om0;cases eqa;obtain⟨_,_,eqa,hlt1,hc1⟩:=o2.lay.some om0;cases eqa;obtain⟨x0,x1⟩:=Y3 o2.1 hc1 (k:=k) hKM;rw[Nat.zero_add]at x0 x1;rw[zG om0,show k - l.length=0 by omega]at x0 x1;simp only[nth,dSl,List.getD_cons_zero]at x0 x1;have y0:=i6 (i:=0) hq rfl;have z0:=j9 (i:=k*2) hb1;have z1:=j9 (i:=k*2+1) hb1;have hlq:=qi hq;have n1:g1≠w.heap.size+1:=by
   intro e0;rw[e0,hr1']at hb1;cases hb1
  have n2:g1≠w.heap.size+1+1:=by
   intro e0;rw[e0,hr2']at hb1;cases hb1
  have nq:g1≠w1.heap.size:=by
   intro e0;rw[e0,hq]at hb1;cases hb1
  go_wp2;refine aj4 6 kr0 kr0 ?_;simp only[List.take_succ_cons,List.take_zero,List.drop_succ_cons,List.drop_zero]
  (repeat(go_big_quiet_step ((go_at_call 168;exact C8 (H3 _ _ _)))))
  refine wpQuiet_nil ?_;rintro _ ⟨x2,rfl⟩;go_wp2;have o3:=(o2.set_self (u:=.int .i64 (1)) k 0 ⟨1,(nth dSl (l++[dSl]) k).live⟩ dSl hKM a1s dc0 rfl).set_self (u:=.bool true) k 1 ⟨1,true⟩ dSl hKM a1s dc0 (by rw[qR (by rw[o2.1];exact hKM),if_pos rfl];rfl);rw[List.set_set,Nat.add_zero]at o3;have r1:((w2.setCell ⟨g1,k*2,none⟩ (.int .i64 1)).setCell ⟨g1,k*2+1,none⟩ (.bool true)).heap[w.heap.size+1]?=_:=(qd n1).trans ((qd n1).trans hr1');have r2:((w2.setCell ⟨g1,k*2,none⟩ (.int .i64 1)).setCell ⟨g1,k*2+1,none⟩ (.bool true)).heap[w.heap.size+1+1]?=_:=(qd n2).trans ((qd n2).trans hr2');have rq:((w2.setCell ⟨g1,k*2,none⟩ (.int .i64 1)).setCell ⟨g1,k*2+1,none⟩ (.bool true)).heap[w1.heap.size]?=_:=(qd nq).trans ((qd nq).trans hq);have hsz2:((w2.setCell ⟨g1,k*2,none⟩ (.int .i64 1)).setCell ⟨g1,k*2+1,none⟩ (.bool true)).heap.size=w2.heap.size:=by rw[B9,B9]
  have hx3:∃y,(w2.setCell ⟨g1,k*2,none⟩ (.int .i64 1)).setCell ⟨g1,k*2+1,none⟩ (.bool true)=plus w y:=qb (qb hx2 hgw) hgw;clear x0 x1 y0 z0 z1 hb1 hc1 hr1' hr2' hq o2 hx2;generalize (w2.setCell ⟨g1,k*2,none⟩ (.int .i64 1)).setCell ⟨g1,k*2+1,none⟩ (.bool true)=w5 at*;have hh:(w5.alloc (.cells #[.int .i64 k,.int .i64 1] 32)).heap[w2.heap.size]?=some (.cells #[.int .i64 k,.int .i64 1] 32):=by rw[qe,if_pos hsz2.symm]
  have hh':=i7 (zt (y:=x2) (j5 _)) hh;have r1':=i7 (zt (y:=x2) (qE (o:=(.cells #[.int .i64 k,.int .i64 1] 32)) (j5 w5))) r1;have r2':=i7 (zt (y:=x2) (qE (o:=(.cells #[.int .i64 k,.int .i64 1] 32)) (j5 w5))) r2;have rq':=i7 (zt (y:=x2) (qE (o:=(.cells #[.int .i64 k,.int .i64 1] 32)) (j5 w5))) rq;have o3':=o3.ex (zt (y:=x2) (qE (o:=(.cells #[.int .i64 k,.int .i64 1] 32)) (j5 w5)));have hx3':=zt (y:=x2) (qE (o:=(.cells #[.int .i64 k,.int .i64 1] 32)) hx3);clear r1 r2 rq o3 hx3 hh;generalize plus (w5.alloc (.cells #[.int .i64 k,.int .i64 1] 32)) x2=w3 at*;have f0:=i6 (i:=0) rq' rfl;have f1:=i6 (i:=0) hh' rfl;have f2:=i6 (i:=1) hh' rfl;have nb:w.heap.size+1≠w.heap.size+1+1:=om0;refine M5 5 a9a (at5 g1 ((k+1)) c4 k (1) (w.heap.size+1) (.cells #[.slice (some ⟨g1,0,none⟩) (k+1) c4] 24) (w.heap.size+1+1) (.cells #[.int .i64 k,.int .i64 1] 32)) (Two (w.heap.size+1) (.cells #[.slice (some ⟨g1,0,none⟩) (k+1) c4] 24) (w.heap.size+1+1) (.cells #[.int .i64 k,.int .i64 1] 32)) R0 (V5 _) kr0 kr0 dc0 (a04 _ _ _ _ _ _ _ _ _) ?steps ?fin
  case steps=>
   refine⟨?_,?_,?_,?_,?_,trivial⟩<;>intro a w' hg hfree hdeep
   ·have f7':=hfree 7 kr0;have e0:=A1 hg f0 om0 om0;simp only[at5,got]at f7';simp[go_sem]at f7';unfold Oper.wp;simp[go_sem,execOp,Act.eval,↓IntWalk.iteOmega,f7',e0];exact⟨_,rfl,zL _,by simp[at5,upd]⟩
   ·have f8':=hfree 8 kr0;have e1:=A1 hg f1 om0 om0;have e2:=A1 hg f2 om0 om0;simp only[at5,got]at f8';simp[go_sem]at f8';unfold Oper.wp;simp[go_sem,execOp,Act.eval,↓IntWalk.iteOmega,f8',e1,e2];exact⟨_,rfl,zL _,by simp[at5,upd]⟩
   ·have f2':=hfree 2 kr0;have d0:=hdeep 0 kr0;simp only[at5,got]at f2' d0;simp[go_sem]at f2';rcases QT hg r1' with hb|hb
    ·have c0':=i6 (i:=0) hb rfl;have z0':=j9 (i:=0) hb;unfold Oper.wp;simp[go_sem,execOp,Act.eval,f2',d0,c0',z0'];exact⟨Zn nb (j7 hb),undef,(j7 hb)⟩
    ·have c0':=i6 (i:=0) hb rfl;have z0':=j9 (i:=0) hb;unfold Oper.wp;simp[go_sem,execOp,Act.eval,f2',d0,c0',z0'];exact⟨Zn nb (j7 hb),undef,(j7 hb)⟩
   ·have f3':=hfree 3 kr0;have d1:=hdeep 1 kr0;simp only[at5,got]at f3' d1;simp[go_sem]at f3';rcases QI hg r2' with hb|hb
    ·have c0':=i6 (i:=0) hb rfl;have z0':=j9 (i:=0) hb;have c1':=i6 (i:=1) hb rfl;have z1':=j9 (i:=1) hb;unfold Oper.wp;simp[go_sem,execOp,Act.eval,f3',d1,c0',z0',c1',z1'];exact⟨J0 nb (j7 (j7 hb)),undef,(j7 (j7 hb))⟩
    ·have c0':=i6 (i:=0) hb rfl;have z0':=j9 (i:=0) hb;have c1':=i6 (i:=1) hb rfl;have z1':=j9 (i:=1) hb;unfold Oper.wp;simp[go_sem,execOp,Act.eval,f3',d1,c0',z0',c1',z1'];exact⟨J0 nb (j7 (j7 hb)),undef,(j7 (j7 hb))⟩
   ·unfold Oper.wp;simp[go_sem,execOp,Act.eval,↓IntWalk.iteOmega];exact⟨_,rfl,zL _,by simp[at5,upd]⟩
  case fin=>
   rintro t w4 hg hΦ;have h9:=hΦ 2 dc0;have h10:=hΦ 3 dc0;have h11:=hΦ 4 dc0;simp only[at5]at h9 h10 h11;have o4:=o3'.two hg r1' r2' dc0 dc0;have hx4:=al7 hg hx3' om0 om0;simp only[zh,List.take_succ_cons,List.take_zero,List.take_nil,Act.put];simp only[List.setIfInBounds_toArray,List.set_cons_succ,List.set_cons_zero,h11];simp only[List.drop_succ_cons,List.drop_zero];clear hΦ hg o3' hx3' f0 f1 f2 r1' r2' rq' hh';have c0:=i6 (i:=0) h9 rfl;have c1':=i6 (i:=0) h10 rfl;have c2':=i6 (i:=1) h10 rfl;go_wp2;have hpost:a75 w (U2 l) (mkS l) (mkG l) (H7 l) (.returned (.tuple #[.agg #[.slice (some ⟨g1,0,none⟩) (k+1) c4],.agg #[.int .i64 k,.int .i64 1],.int .i64 0])) w4:=by
    rw[U2,mkS,mkG,if_pos he,if_pos he,if_pos he,he,hml,hmg,hmS];exact⟨some ⟨g1,0,none⟩,c4,by rw[o4.1],hx4,by rw[o4.1];exact o4⟩
   exact bodyPost_ret (v:=.tuple #[.agg #[.slice (some ⟨g1,0,none⟩) (k+1) c4],.agg #[.int .i64 k,.int .i64 1],.int .i64 0]) (by simp[results,Tryz.results161,go_sem,c0,c1',c2']) rfl hpost
end
section
open Go.RowKit
def a8D (P:Program) (md:Region.Mode) (ops:Array Oper) (n:Nat) (Φ:Nat→(Nat→Value)→World→Prop) (a0:Act) (w0:World) (Q:Exit→Act→World→Prop):List Oper→Nat→Prop:=
 ab3 fun i o=>∀a w,(∃x,w=plus w0 x)→(∀s,((ops.toList.take n).any fun o=>o.dst==some s)=false→got a s=got a0 s)→(∀j,N5 md ops ops.size 8 i j=true→Φ j (got a) w)→
   o.wp P a w (fun a' w'=>∃v,a'=a.put o.dst v∧(∃x,w'=plus w x)∧Φ i (upd (got a) o.dst v) w') Q
theorem aj5{P:Program}{Q:Exit→Act→World→Prop}{id:Nat}{l:List Oper}(n:Nat)(S:Nat→List Nat)(Φ:Nat→(Nat→Value)→World→Prop){a:Act}{w:World}(hm:P.follows .mixedOrders=true)(hB:a3G .any l.toArray n S a.tmps.size=true)(hn:n≤l.length)
  (hmono:∀i t t' w x,Φ i t w→(∀s∈S i,t' s=t s)→Φ i t' (plus w x))
  (hst:a8D P .any l.toArray n Φ a w Q (l.take n) 0)
  (hend:∀t w',(∃x,w'=plus w x)→(∀j,j<n→Φ j t w')→wpList P l.toArray Q (l.drop n) (zh t (l.take n) a) w'):(Code.region id l.toArray true).wp P Q a w:=
 X0 n S (fun i t _ w=>Φ i t w) (fun _ w _ w'=>∃x,w'=plus w x) (fun _ _ _ _ _ _ h1 ⟨x,h2⟩=>h2▸zt h1) au6 hm hB hn (fun i t t' _ w _ _ h1 h2 ⟨x,h3⟩=>h3▸hmono i t t' w x h1 h2)
  (T7 (fun _ _ q a _ w h1 h2 h3 _=>q a w h1 h2 h3) _ _ hst) (fun t _ w' _ h1 h2=>hend t w' h1 h2)
end
end Go.Proofs.YtcekcihijdipoaaGreat
