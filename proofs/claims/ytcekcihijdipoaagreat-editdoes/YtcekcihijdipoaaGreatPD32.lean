/- A pack of texts: EdDoU, EdPl, EdOwn4, EdDoM. -/
import Derived.Test.YtcekcihijdipoaaGreatPD31
namespace Go.Proofs.YtcekcihijdipoaaGreat
set_option maxRecDepth 100000
set_option maxHeartbeats 16000000
open Go.RowKit Go.ChangeShapes Go.WideShapes Go.ChangeAt
set_option linter.unusedSimpArgs false
set_option linter.unusedVariables false
attribute [local go_sem] qn qZ A2 zg zz zA t5 qJ zf qO qD t6
section
theorem M1{d:Nat}{gb:Option Nat}{D D':Nat→Bool}{w w':World}(h:ap4 d gb D w D' w')(hD:D d=D' d):∃x,w'=plus w x:=
 C3 ⟨h.grow.os,h.grow.tape,h.grow.output,h.grow.size,fun k hk=>h.same hD k hk⟩
def u1S (i:Nat):List Nat:=match i with|0=>[6]|1=>[7]|2=>[8]|3=>[9]|4=>[10]|5=>[11]|6=>[12]|7=>[13]|8=>[14]|9=>[15]|10=>[16]|11=>[17]|12=>[18,17]|13=>[19]|14=>[20]|_=>[]
def u1Φ (T:World) (p q:Nat) (h:SH) (x:SX) (s:Sc) (e:EH) (g':Gr) (er:Int) (gq:Option Nat) (i:Nat) (t:Nat→Value) (D:Nat→Bool) (w':World):Prop:=match i with
 |0=>t 6=.agg #[.int .i64 0,.int .i64 0,.int .i64 0]
 |1=>t 7=.pointer (some ⟨p,0,none⟩)
 |2=>t 8=.pointer (some ⟨p,0,none⟩)
 |3=>t 9=.pointer (some ⟨p,0,none⟩)
 |4=>t 10=.pointer (some ⟨p,0,none⟩)
 |5=>t 11=.pointer (some ⟨p,0,none⟩)
 |6=>t 12=.agg #[.slice h.ga h.gn h.gc,.slice h.ka h.kn h.kc]∧D 6=true
 |7=>t 13=.pointer (some ⟨q,1,none⟩)
 |8=>t 14=.agg #[.int .i64 e.h0,.int .i64 e.h1]
 |9=>t 15=.pointer (some ⟨q,5,none⟩)
 |10=>t 16=.int .i64 e.at'
 |11=>∃a c k kc hs,t 17=.tuple #[.agg #[.slice a g'.sl.length c,.slice k g'.ks.length kc],.int .i64 er]∧D 11=true∧(D 14=false→zS T w' a g'.sl.length c k g'.ks.length kc hs g')
 |12=>∃v,t 17=.tuple #[v,.int .i64 er]∧t 18=v
 |13=>t 19=.int .i64 er
 |14=>t 20=.int .i64 er∧D 14=true∧(∃y,w'=plus T y)∧(er=0→∃h' x',UwI T w' p h' x' ⟨g',s.ns,s.ms,s.ts,s.root⟩)
 |_=>True
theorem a7a(T:World)(p q:Nat)(h:SH)(x:SX)(s:Sc)(e:EH)(g':Gr)(er:Int)(gq:Option Nat):∀i t t' D w D' w',u1Φ T p q h x s e g' er gq i t D w→(∀s∈u1S i,t' s=t s)→N8 14 [6,11] gq D w D' w'→u1Φ T p q h x s e g' er gq i t' D' w':=by
 intro i t t' D w D' w' h_ hs' ht
 match i with
 |0=>exact(hs' 6 dc0).trans h_
 |1=>exact(hs' 7 dc0).trans h_
 |2=>exact(hs' 8 dc0).trans h_
 |3=>exact(hs' 9 dc0).trans h_
 |4=>exact(hs' 10 dc0).trans h_
 |5=>exact(hs' 11 dc0).trans h_
 |6=>exact⟨(hs' 12 dc0).trans h_.1,ht.m 6 h_.2⟩
 |7=>exact(hs' 13 dc0).trans h_
 |8=>exact(hs' 14 dc0).trans h_
 |9=>exact(hs' 15 dc0).trans h_
 |10=>exact(hs' 16 dc0).trans h_
 |11=>obtain⟨a,c,k,kc,hs,e1,e2,e3⟩:=h_;exact⟨a,c,k,kc,hs,(hs' 17 dc0).trans e1,ht.m 11 e2,fun q=>by have q2:D 14=false:=(by cases e9:D 14;rfl;rw[ht.m 14 e9]at q;cases q);obtain⟨x,hx⟩:=M1 ht.t (q2.trans q.symm);exact(e3 q2).ex ⟨x,hx⟩⟩
 |12=>obtain⟨v,e1,e2⟩:=h_;exact⟨v,(hs' 17 dc0).trans e1,(hs' 18 dc0).trans e2⟩
 |13=>exact(hs' 19 dc0).trans h_
 |14=>obtain⟨e1,e2,e3,e4⟩:=h_;exact⟨(hs' 20 dc0).trans e1,ht.m 14 e2,i9 e3 (C7 ht e2),fun q=>by obtain⟨a,b,c⟩:=e4 q;exact⟨a,b,c.on (C7 ht e2)⟩⟩
 |i+15=>trivial
theorem a0v{T w:World}{p:Nat}{h:SH}{x:SX}{s:Sc}(I:UwI T w p h x s)(hm:C2 s=true)(e:EH)(n:Nd)(m:Ms)(t:Tp)(hk:e.kind=4):
  Calls Tryz.prog 66 #[.pointer (some ⟨p,0,none⟩),vE e] w fun r w'=>ZY T p (K7 s (qt e n m t)) 0 0 0 (qF s (qt e n m t)) r w':=by
 have hA:=I.own.at (A7 hm);have hG:=hA.g;have he:qF s (qt e n m t)=zO s.g (e.h0,e.h1) e.at':=by simp[qF,qt,hk]
 have hs:K7 s (qt e n m t)=⟨W6 s.g (e.h0,e.h1) e.at',s.ns,s.ms,s.ts,s.root⟩:=by simp[K7,qt,hk]
 have i1:(fE e)[1]?=some (.int .i64 e.h0):=rfl;have i2:(fE e)[2]?=some (.int .i64 e.h1):=rfl;have i5:(fE e)[5]?=some (.int .i64 e.at'):=rfl;rw[he,hs];show Calls Tryz.prog 66 #[.pointer (some ⟨p,0,none⟩),.agg (fE e).toArray] w _;obtain⟨ce,hce⟩:∃c,fE e=c:=⟨_,rfl⟩;rw[hce]at i1 i2 i5 ⊢;obtain⟨er,her⟩:∃v,zO s.g (e.h0,e.h1) e.at'=v:=⟨_,rfl⟩;obtain⟨gr,hgr⟩:∃v,z9 s.g (e.h0,e.h1) e.at'=v:=⟨_,rfl⟩;have hres:er=0→gr=W6 s.g (e.h0,e.h1) e.at':=fun e0=>by rw[←hgr,z9,her,if_pos e0]
 rw[her];obtain⟨q,hq⟩:∃q,w.heap.size=q:=⟨_,rfl⟩;have lp:=qi I.bx;go_enter Tryz.func66,Tryz.ntmps66;go_upto_region 1 with fail;refine qz (fun w'=>(∃y,w'=plus w y)∧w'.heap[q]?=some (.cells ce.toArray 66)∧w'.heap[q+1]?=some (.cells #[.int .i64 0,.int .i64 0,.int .i64 0] 36)) ⟨sk9,hq▸qm (qc _ _),by rw[←hq,←j8 w];exact qc _ _⟩ ?_
 try simp only[hq]
 rintro w1 ⟨x1,k1,k2⟩;have I1:=I.on x1;have k0:=I1.bx;have c0:=k9 (i:=0) k0 rfl;have c1:=k9 (i:=1) k0 rfl;have hqp:q≠p:=om0;have hqp1:q+1≠p:=om0;have hG1:=hG.ex x1;refine zR 15 u1S (u1Φ T p q h x s e gr er (some p)) (N8 14 [6,11] (some p)) P3 (QP _) kr0 kr0 dc0 (a7a T p q h x s e gr er (some p)) ?steps ?fin
 case steps=>
  refine⟨?_,?_,?_,?_,?_,?_,?_,?_,?_,?_,?_,?_,?_,?_,?_,trivial⟩<;>intro a D w' hg hfree hdeep hD
  ·unfold Oper.wp;simp[go_sem,execOp,Act.eval,↓IntWalk.iteOmega];exact⟨_,rfl,qp dc0 (j5 _),by simp[u1Φ,upd]⟩
  ·have f0_:=hfree 0 kr0;simp only[u1Φ,got]at f0_;simp[go_sem]at f0_;unfold Oper.wp;simp[go_sem,execOp,Act.eval,↓IntWalk.iteOmega,f0_];exact⟨_,rfl,qp dc0 (j5 _),by simp[u1Φ,upd]⟩
  ·have f0_:=hfree 0 kr0;simp only[u1Φ,got]at f0_;simp[go_sem]at f0_;unfold Oper.wp;simp[go_sem,execOp,Act.eval,↓IntWalk.iteOmega,f0_];exact⟨_,rfl,qp dc0 (j5 _),by simp[u1Φ,upd]⟩
  ·have d2:=hdeep 2 kr0;simp only[u1Φ,got]at d2;simp[go_sem]at d2;unfold Oper.wp;simp[go_sem,execOp,Act.eval,↓IntWalk.iteOmega,d2];exact⟨_,rfl,qp dc0 (j5 _),by simp[u1Φ,upd]⟩
  ·have d3:=hdeep 3 kr0;simp only[u1Φ,got]at d3;simp[go_sem]at d3;unfold Oper.wp;simp[go_sem,execOp,Act.eval,↓IntWalk.iteOmega,d3];exact⟨_,rfl,qp dc0 (j5 _),by simp[u1Φ,upd]⟩
  ·have d4:=hdeep 4 kr0;simp only[u1Φ,got]at d4;simp[go_sem]at d4;unfold Oper.wp;simp[go_sem,execOp,Act.eval,↓IntWalk.iteOmega,d4];exact⟨_,rfl,qp dc0 (j5 _),by simp[u1Φ,upd]⟩
  ·have d5:=hdeep 5 kr0;simp only[u1Φ,got]at d5;simp[go_sem]at d5;obtain⟨x9,rfl⟩:=Qp hg (r:=6) dc0 hD;have cc0:=qf ⟨x9,rfl⟩ c0;have cc1:=qf ⟨x9,rfl⟩ c1;unfold Oper.wp;simp[go_sem,execOp,Act.eval,↓IntWalk.iteOmega,d5,cc0,cc1];exact⟨_,rfl,qp dc0 (j5 _),by simp[u1Φ,upd],y9 _⟩
  ·have f3_:=hfree 3 kr0;simp only[u1Φ,got]at f3_;simp[go_sem]at f3_;unfold Oper.wp;simp[go_sem,execOp,Act.eval,↓IntWalk.iteOmega,f3_];exact⟨_,rfl,qp dc0 (j5 _),by simp[u1Φ,upd]⟩
  ·have d7:=hdeep 7 kr0;simp only[u1Φ,got]at d7;simp[go_sem]at d7;have kq:=qI hg.t (fun e=>hqp (by cases e;rfl)) k1;have ce1:=k9 kq i1;have ce2:=k9 kq i2;unfold Oper.wp;simp[go_sem,execOp,Act.eval,↓IntWalk.iteOmega,d7,ce1,ce2];exact⟨_,rfl,qp dc0 (j5 _),by simp[u1Φ,upd]⟩
  ·have f3_:=hfree 3 kr0;simp only[u1Φ,got]at f3_;simp[go_sem]at f3_;unfold Oper.wp;simp[go_sem,execOp,Act.eval,↓IntWalk.iteOmega,f3_];exact⟨_,rfl,qp dc0 (j5 _),by simp[u1Φ,upd]⟩
  ·have d9:=hdeep 9 kr0;simp only[u1Φ,got]at d9;simp[go_sem]at d9;have kq:=qI hg.t (fun e=>hqp (by cases e;rfl)) k1;have ce5:=k9 kq i5;unfold Oper.wp;simp[go_sem,execOp,Act.eval,↓IntWalk.iteOmega,d9,ce5];exact⟨_,rfl,qp dc0 (j5 _),by simp[u1Φ,upd]⟩
  ·obtain⟨e12,D6⟩:=hdeep 6 kr0;have e14:=hdeep 8 kr0;have e16:=hdeep 10 kr0;simp only[u1Φ,got]at e12 e14 e16;simp at e12 e14 e16;obtain⟨x9,rfl⟩:=Qp hg (r:=11) dc0 hD;have hU:=az9 h.ga h.gn h.gc h.ka h.kn h.kc x.gr s.g e.h0 e.h1 e.at' (plus w1 x9) (hG1.ex sk9);rw[hgr,her]at hU;unfold Oper.wp;simp[go_sem,execOp,Act.eval,↓IntWalk.iteOmega,e12,e14,e16];refine hU.mono ?_;rintro r w2 ⟨a2,c2,k2_,kc2,hs2,rfl,hw2,o2⟩;exact⟨_,rfl,qp dc0 hw2,a2,c2,k2_,kc2,hs2,by simp[upd],y9 _,fun _=>o2.base (qu (i9 I1.ex ⟨x9,rfl⟩))⟩
  ·obtain⟨a2,c2,k2_,kc2,hs2,e17,_,_⟩:=hdeep 11 kr0;have g17:=e17;simp only[got]at g17;simp at g17;unfold Oper.wp;simp[go_sem,execOp,Act.eval,↓IntWalk.iteOmega,g17];exact⟨_,rfl,qp dc0 (j5 _),.agg #[.slice a2 gr.sl.length c2,.slice k2_ gr.ks.length kc2],by simp[upd];exact e17,by simp[upd]⟩
  ·obtain⟨a2,c2,k2_,kc2,hs2,e17,_,_⟩:=hdeep 11 kr0;have g17:=e17;simp only[got]at g17;simp at g17;unfold Oper.wp;simp[go_sem,execOp,Act.eval,↓IntWalk.iteOmega,g17];exact⟨_,rfl,qp dc0 (j5 _),by simp[u1Φ,upd]⟩
  ·have e7:=hdeep 1 kr0;obtain⟨a2,c2,k2_,kc2,hs2,e17,D11,o2⟩:=hdeep 11 kr0;obtain⟨v,e17',e18⟩:=hdeep 12 kr0;have e19:=hdeep 13 kr0;obtain⟨_,D6⟩:=hdeep 6 kr0;rw[e17]at e17';cases e17';have o3:=o2 hD;obtain⟨x9,rfl⟩:=B7 hg.t hD;have I2:=I1.on ⟨x9,rfl⟩;simp only[u1Φ,got]at e7 e18 e19;simp at e7 e18 e19;unfold Oper.wp;simp[go_sem,execOp,Act.eval,↓IntWalk.iteOmega,e7,e18,e19];refine(af6 I2 _ _ _ _ _ _ hs2 gr o3 er).mono ?_;rintro r w2 ⟨rfl,hgw,hz,hnz⟩;refine⟨_,rfl,aj9 hgw hD (fun r hr=>?_),by simp[upd],y9 _,?_,fun e0=>⟨_,_,hz e0⟩⟩
   ·simp only[List.mem_cons,List.not_mem_nil,or_false]at hr;rcases hr with rfl|rfl
    ·exact D6
    ·exact D11
   ·by_cases e0:er=0
    ·exact(hz e0).ex
    ·exact i9 I2.ex (hnz e0)
 case fin=>
  rintro t D w9 hDa hg hΦ;have r0:=hΦ 0 dc0;obtain⟨e20,_,hxT,hu⟩:=hΦ 14 dc0;simp only[u1Φ]at r0;have k3:=qI hg.t (fun e=>hqp1 (by cases e;rfl)) k2;simp only[zh,List.take_succ_cons,List.take_zero,List.drop_succ_cons,List.drop_zero,r0,e20];simp only[Act.put];simp only[List.setIfInBounds_toArray,List.set_cons_succ,List.set_cons_zero];clear hΦ r0 e20;have hTq:T.heap.size≤q+1:=by have:=qu I.ex;omega
  go_wp2_with (refine j6 rfl 36 (Operand.tmp 4) _ rfl (q+1) [.int .i64 0,.int .i64 0,.int .i64 0] rfl rfl _ _ k3 kr0 rfl (by intro v hv;simp at hv;subst hv;rfl) ?_);exact bodyPost_ret (zv Tryz.results66 _ _ (q+1) 36 #[.int .i64 0,.int .i64 0,.int .i64 0] _ _ (.int .i64 er) rfl rfl (p9 k3) Tryz.underlying36 rfl kr0) rfl ⟨rfl,ql hxT hTq,fun e0=>by obtain⟨h',x',U⟩:=hu e0;rw[hres e0]at U;exact⟨h',x',U.took k3 hTq⟩⟩
end
section
def y7 (at_:Int) (many most:Nat) (wrong:Int):Int:=if E2 at_ many most wrong=0 then(C5 at_ many:Nat)else 0
theorem an4(a:Int)(many most:Nat)(wrong:Int)(hm:many≤most)(h1:many≤1000){pv er:Int}(hp:y7 a many most wrong=pv)(he:E2 a many most wrong=er)(w:World):
  Calls Tryz.prog 125 #[.int .i64 a,.int .i64 many,.int .i64 most,.int .i64 wrong] w fun e w'=>e=.returned (.tuple #[.int .i64 pv,.int .i64 er])∧∃y,w'=plus w y:=by
 unfold y7 at hp;rw[he]at hp;unfold E2 at he;unfold C5 at hp;by_cases ha:a= -1
 ·subst ha;rw[if_neg om0]at he;by_cases hw:wrong=0
  ·subst hw;rw[if_neg om0]at he;by_cases hf:many=most
   ·subst hf;rw[if_pos om0]at he;subst he;obtain rfl:0=pv:=by simpa using hp
    go_enter Tryz.func125,Tryz.ntmps125;go_wp2_with fail;exact bodyPost_ret (v:=.tuple #[.int .i64 0,.int .i64 9]) (by simp[results,Tryz.results125,go_sem]) rfl ⟨rfl,sk9⟩
   ·have df:((many:Int)==(most:Int))=false:=by rw[beq_eq_false_iff_ne];omega
    rw[if_neg om0]at he;subst he;obtain rfl:(many:Int)=pv:=by simpa using hp
    go_enter Tryz.func125,Tryz.ntmps125;go_wp2_with fail;exact bodyPost_ret (v:=.tuple #[.int .i64 many,.int .i64 0]) (by simp[results,Tryz.results125,go_sem]) rfl ⟨rfl,sk9⟩
  ·have dw:(wrong==0)=false:=by rw[beq_eq_false_iff_ne];exact hw
   rw[if_pos hw]at he;subst he;obtain rfl:0=pv:=by rw[if_neg hw]at hp;exact hp
   go_enter Tryz.func125,Tryz.ntmps125;go_wp2_with fail;exact bodyPost_ret (v:=.tuple #[.int .i64 0,.int .i64 wrong]) (by simp[results,Tryz.results125,go_sem]) rfl ⟨rfl,sk9⟩
 ·have da:(a== -1)=false:=by rw[beq_eq_false_iff_ne];exact ha
  by_cases h0:a<0
  ·have e0:=decide_eq_true h0;rw[if_pos om0]at he;subst he;obtain rfl:0=pv:=by simpa using hp
   go_enter Tryz.func125,Tryz.ntmps125;go_wp2_with fail;exact bodyPost_ret (v:=.tuple #[.int .i64 0,.int .i64 2]) (by simp[results,Tryz.results125,go_sem]) rfl ⟨rfl,sk9⟩
  ·have e0:=decide_eq_false h0;by_cases h2:(many:Int)≤a
   ·have e2:=decide_eq_true h2;rw[if_pos om0]at he;subst he;obtain rfl:0=pv:=by simpa using hp
    go_enter Tryz.func125,Tryz.ntmps125;go_wp2_with fail;exact bodyPost_ret (v:=.tuple #[.int .i64 0,.int .i64 2]) (by simp[results,Tryz.results125,go_sem]) rfl ⟨rfl,sk9⟩
   ·have e2:=decide_eq_false h2;have e3:a<(many:Int):=om0;rw[if_neg om0]at he;by_cases hw:wrong=0
    ·subst hw;rw[if_neg om0,if_neg om0]at he;subst he;obtain rfl:a=pv:=by rw[if_pos rfl,if_neg h0]at hp;omega
     go_enter Tryz.func125,Tryz.ntmps125;go_wp2_with fail;exact bodyPost_ret (v:=.tuple #[.int .i64 a,.int .i64 0]) (by simp[results,Tryz.results125,go_sem]) rfl ⟨rfl,sk9⟩
    ·have dw:(wrong==0)=false:=by rw[beq_eq_false_iff_ne];exact hw
     rw[if_pos hw]at he;subst he;obtain rfl:0=pv:=by rw[if_neg hw]at hp;exact hp
     go_enter Tryz.func125,Tryz.ntmps125;go_wp2_with fail;exact bodyPost_ret (v:=.tuple #[.int .i64 0,.int .i64 wrong]) (by simp[results,Tryz.results125,go_sem]) rfl ⟨rfl,sk9⟩
end
section
open Go.RowKit
section
variable {T w w1:World} {h:SH} {x:SX} {s:Sc} {ao':Option Addr} {n' cap' k:Nat}
theorem zi.putNode(a:zi T w h x s){hn:NH}{n:Nd}(o:zV T w hn n)(hk:k≤h.nn)(hgr:w.grownBy w1 (Value.ownBlock (.slice h.na h.nn h.nc)))(on:Own 56 33 fN T w1 ao' n' cap' (zU x.nh k hn)):
  zi T w1 ⟨h.ga,h.gn,h.gc,h.ka,h.kn,h.kc,ao',n',cap',h.ma,h.mn,h.mc,h.ta,h.tn,h.tc,h.r0,h.r1⟩ ⟨x.gr,zU x.nh k hn,x.mh,x.ph,x.th⟩ ⟨s.g,zU s.ns k n,s.ms,s.ts,s.root⟩:=by
 have n1:=a.nl.1;have n2:=a.nlen;refine⟨a.g.grown hgr a.nl dc0 dc0 dc0,on,by simp only[L8,n2],fun j hj=>?_,zj hgr a.nl a.ml dc0,a.mlen,fun k hk=>(a.ms k hk).grown hgr a.nl dc0 dc0 dc0 dc0,zj hgr a.nl a.tl dc0,a.tlen,fun k hk=>(a.ts k hk).grown hgr a.nl dc0,a.root,a.pl⟩;simp only[L8]at hj ⊢;rw[Qt om0,Qt om0];split
 ·exact o.grown hgr a.nl dc0
 ·exact(a.ns j (by split at hj<;>omega)).grown hgr a.nl dc0
theorem zi.putMesh(a:zi T w h x s){hm:MH}{hs:List PH}{m:Ms}(o:zZ T w hm hs m)(hk:k≤h.mn)(hgr:w.grownBy w1 (Value.ownBlock (.slice h.ma h.mn h.mc)))(on:Own 61 3 fMh T w1 ao' n' cap' (zU x.mh k hm)):
  zi T w1 ⟨h.ga,h.gn,h.gc,h.ka,h.kn,h.kc,h.na,h.nn,h.nc,ao',n',cap',h.ta,h.tn,h.tc,h.r0,h.r1⟩ ⟨x.gr,x.nh,zU x.mh k hm,zU x.ph k hs,x.th⟩ ⟨s.g,s.ns,zU s.ms k m,s.ts,s.root⟩:=by
 have n1:=a.ml.1;have n2:=a.mlen;have n3:=a.pl;refine⟨a.g.grown hgr a.ml dc0 dc0 dc0,zj hgr a.ml a.nl dc0,a.nlen,fun k hk=>(a.ns k hk).grown hgr a.ml dc0,on,by simp only[L8,n2],fun j hj=>?_,zj hgr a.ml a.tl dc0,a.tlen,fun k hk=>(a.ts k hk).grown hgr a.ml dc0,a.root,by simp only[L8,n3]⟩;simp only[L8]at hj ⊢;rw[Qt om0,Qt om0,Qt om0];split
 ·exact o.grown hgr a.ml dc0 dc0 dc0 dc0
 ·exact(a.ms j (by split at hj<;>omega)).grown hgr a.ml dc0 dc0 dc0 dc0
theorem zi.putTex(a:zi T w h x s){ht:TH}{t:Tp}(o:D0 T w ht t)(hk:k≤h.tn)(hgr:w.grownBy w1 (Value.ownBlock (.slice h.ta h.tn h.tc)))(on:Own 64 3 fTh T w1 ao' n' cap' (zU x.th k ht)):
  zi T w1 ⟨h.ga,h.gn,h.gc,h.ka,h.kn,h.kc,h.na,h.nn,h.nc,h.ma,h.mn,h.mc,ao',n',cap',h.r0,h.r1⟩ ⟨x.gr,x.nh,x.mh,x.ph,zU x.th k ht⟩ ⟨s.g,s.ns,s.ms,zU s.ts k t,s.root⟩:=by
 have n1:=a.tl.1;have n2:=a.tlen;refine⟨a.g.grown hgr a.tl dc0 dc0 dc0,zj hgr a.tl a.nl dc0,a.nlen,fun k hk=>(a.ns k hk).grown hgr a.tl dc0,zj hgr a.tl a.ml dc0,a.mlen,fun k hk=>(a.ms k hk).grown hgr a.tl dc0 dc0 dc0 dc0,on,by simp only[L8,n2],fun j hj=>?_,a.root,a.pl⟩;simp only[L8]at hj ⊢;rw[Qt om0,Qt om0];split
 ·exact o.grown hgr a.tl dc0
 ·exact(a.ts j (by split at hj<;>omega)).grown hgr a.tl dc0
end
end
section
theorem F4{α:Type}{f:α→List Value}{T w:World}{ao:Option Addr}{n cap c g:Nat}{l:List α}{e e':TypeId}{cur:Array Value}(hown:Own e c f T w ao n cap l)(hb:w.heap[g]?=some (.cells cur e'))(he:e'≠e):some g≠Value.ownBlock (.slice ao n cap):=by
 intro e0;cases ao with
 |none=>simp[Value.ownBlock]at e0
 |some a0=>
  simp only[Value.ownBlock,Option.some.injEq]at e0;rcases hown.2.2 with⟨h1,_⟩|⟨k,cp,cu,h1,h2,h3,_⟩
  ·simp at h1
  ·simp only[Value.slice.injEq,Option.some.injEq]at h1;rw[h1.1]at e0;simp only at e0;rw[←e0,hb]at h3;cases h3;exact he rfl
def a55 (h:SH) (a:Option Addr) (n c:Nat):SH:=⟨h.ga,h.gn,h.gc,h.ka,h.kn,h.kc,h.na,h.nn,h.nc,a,n,c,h.ta,h.tn,h.tc,h.r0,h.r1⟩
def m1S (i:Nat):List Nat:=match i with|0=>[27]|1=>[28]|2=>[29]|3=>[30]|4=>[31]|5=>[32]|6=>[33]|7=>[34]|8=>[35]|9=>[36]|10=>[37]|11=>[38]|12=>[39]|13=>[40]|_=>[]
def m1Φ (T W:World) (p q:Nat) (h:SH) (x:SX) (s:Sc) (e:EH) (m:Ms) (k:Nat) (gq:Option Nat) (i:Nat) (t:Nat→Value) (D:Nat→Bool) (w':World):Prop:=match i with
 |0=>t 27=.pointer (some ⟨p,0,none⟩)
 |1=>t 28=.pointer (some ⟨p,0,none⟩)
 |2=>t 29=.pointer (some ⟨p,0,none⟩)
 |3=>t 30=.pointer (some ⟨p,0,none⟩)
 |4=>t 31=.pointer (some ⟨p,3,none⟩)
 |5=>t 32=.slice h.ma h.mn h.mc
 |6=>t 33=.int .i64 k
 |7=>t 34=.pointer (some ⟨q,39,none⟩)
 |8=>t 35=.agg (fMh e.mh).toArray
 |9=>∃h3 ps,t 36=.agg (fMh h3).toArray∧D 9=true∧(D 10=false→zZ T w' h3 ps m)
 |10=>∃a n c x',t 37=.slice a n c∧D 10=true∧(∃y,w'=plus T y)∧zi T w' (a55 h a n c) x' ⟨s.g,s.ns,zU s.ms k m,s.ts,s.root⟩
 |11=>t 38=.pointer (some ⟨p,0,none⟩)
 |12=>t 39=.pointer (some ⟨p,0,none⟩)
 |13=>t 40=.pointer (some ⟨p,3,none⟩)
 |_=>True
theorem a5F(T W:World)(p q:Nat)(h:SH)(x:SX)(s:Sc)(e:EH)(m:Ms)(k:Nat)(gq:Option Nat):∀i t t' D w D' w',m1Φ T W p q h x s e m k gq i t D w→(∀s∈m1S i,t' s=t s)→N8 10 [9] gq D w D' w'→m1Φ T W p q h x s e m k gq i t' D' w':=by
 intro i t t' D w D' w' h_ hs' ht
 match i with
 |0=>exact(hs' 27 dc0).trans h_
 |1=>exact(hs' 28 dc0).trans h_
 |2=>exact(hs' 29 dc0).trans h_
 |3=>exact(hs' 30 dc0).trans h_
 |4=>exact(hs' 31 dc0).trans h_
 |5=>exact(hs' 32 dc0).trans h_
 |6=>exact(hs' 33 dc0).trans h_
 |7=>exact(hs' 34 dc0).trans h_
 |8=>exact(hs' 35 dc0).trans h_
 |9=>obtain⟨h3,ps,e1,e2,e3⟩:=h_;exact⟨h3,ps,(hs' 36 dc0).trans e1,ht.m 9 e2,fun q=>by have q2:D 10=false:=(by cases e9:D 10;rfl;rw[ht.m 10 e9]at q;cases q);exact(e3 q2).ex (M1 ht.t (q2.trans q.symm))⟩
 |10=>obtain⟨a,n,c,x',e1,e2,e3,e4⟩:=h_;exact⟨a,n,c,x',(hs' 37 dc0).trans e1,ht.m 10 e2,i9 e3 (C7 ht e2),e4.ex (C7 ht e2)⟩
 |11=>exact(hs' 38 dc0).trans h_
 |12=>exact(hs' 39 dc0).trans h_
 |13=>exact(hs' 40 dc0).trans h_
 |i+14=>trivial
theorem ay2{T w:World}{p:Nat}{h:SH}{x:SX}{s:Sc}(I:UwI T w p h x s)(hm:C2 s=true)(e:EH)(ps:List PH)(n:Nd)(m:Ms)(t:Tp)(hE:I9 w e ps n m t)(hk:e.kind=6):
  Calls Tryz.prog 68 #[.pointer (some ⟨p,0,none⟩),vE e] w fun r w'=>ZY T p (K7 s (qt e n m t)) 0 0 (y7 e.at' s.ms.length 32 (L3 m)) (qF s (qt e n m t)) r w':=by
 have hA:=I.own.at (A7 hm);obtain⟨_,_,hst,_,_⟩:=B6 hm;have h32:=(K6 hst).2.2.1;have hmn:=hA.mn;have he:qF s (qt e n m t)=E2 e.at' s.ms.length 32 (L3 m):=by simp[qF,qt,hk]
 have hs:K7 s (qt e n m t)=⟨s.g,s.ns,zU s.ms (C5 e.at' s.ms.length) m,s.ts,s.root⟩:=by simp[K7,qt,hk]
 have i5:(fE e)[5]?=some (.int .i64 e.at'):=rfl;have i39:(fE e)[39]?=some (.slice e.mh.va e.mh.vn e.mh.vc):=rfl;have i40:(fE e)[40]?=some (.slice e.mh.ua e.mh.un e.mh.uc):=rfl;have i41:(fE e)[41]?=some (.slice e.mh.pa e.mh.pn e.mh.pc):=rfl;rw[he,hs];show Calls Tryz.prog 68 #[.pointer (some ⟨p,0,none⟩),.agg (fE e).toArray] w _;obtain⟨ce,hce⟩:∃c,fE e=c:=⟨_,rfl⟩;rw[hce]at i5 i39 i40 i41 ⊢;obtain⟨em,hem⟩:∃v,L3 m=v:=⟨_,rfl⟩;rw[hem];obtain⟨er,her⟩:∃v,E2 e.at' s.ms.length 32 em=v:=⟨_,rfl⟩;obtain⟨pv,hpv⟩:∃v,y7 e.at' s.ms.length 32 em=v:=⟨_,rfl⟩;rw[her,hpv];have hplace:er=0→pv=(C5 e.at' s.ms.length:Nat)∧C5 e.at' s.ms.length≤s.ms.length∧em=0:=fun q=>by
  have q2:=Zz (her.trans q);exact⟨by rw[←hpv,y7,her,if_pos q],q2.1,q2.2.1⟩
 obtain⟨k,hkk⟩:∃k,C5 e.at' s.ms.length=k:=⟨_,rfl⟩;rw[hkk]at hplace ⊢;rw[hmn.1]at her hpv
 replace her:=qw.mk her
 replace hpv:=qw.mk hpv
 replace hplace:=qw.mk hplace
 obtain⟨q,hq⟩:∃q,w.heap.size=q:=⟨_,rfl⟩;have lp:=qi I.bx;go_enter Tryz.func68,Tryz.ntmps68;go_upto_region 1 with fail;refine qz (fun w'=>(∃y,w'=plus w y)∧w'.heap[q]?=some (.cells ce.toArray 66)∧w'.heap[q+1]?=some (.cells #[.int .i64 0,.int .i64 0,.int .i64 0] 36)) ⟨sk9,hq▸qm (qc _ _),by rw[←hq,←j8 w];exact qc _ _⟩ ?_
 try simp only[hq]
 rintro w1 ⟨x1,k1,k2⟩;have I1:=I.on x1;have k0:=I1.bx;have c3:=k9 (i:=3) k0 rfl;have e5:=k9 k1 i5;have e39:=k9 k1 i39;have e40:=k9 k1 i40;have e41:=k9 k1 i41;have hM1:=hE.mh.ex x1;have l1:=qi k1;have l0:=qi k0;refine qg kr0 kr0 ?_
 (repeat(go_big_quiet_step (first|(go_at_call 77;exact C9 (A4 (al3 hem (hM1.ex sk9))))|(go_at_call 125;exact C9 (an4 e.at' h.mn 32 em om0 om0 hpv.it her.it _)))))
 refine wpQuiet_nil ?_;rintro _ ⟨x2,rfl⟩;by_cases h0:er=0;rotate_left
 ·have d0:(er==0)=false:=by rw[beq_eq_false_iff_ne];exact h0
  go_wp2_with (refine j6 rfl 36 (Operand.tmp 4) _ rfl (q+1) [.int .i64 0,.int .i64 0,.int .i64 0] rfl rfl _ _ (i7 sk9 k2) kr0 rfl (by intro v hv;simp at hv;subst hv;rfl) ?_);exact bodyPost_ret (zv Tryz.results68 _ _ (q+1) 36 #[.int .i64 0,.int .i64 0,.int .i64 0] _ _ (.int .i64 er) rfl rfl (p9 (i7 sk9 k2)) Tryz.underlying36 rfl kr0) rfl ⟨by rw[←hpv.it,y7,her.it,if_neg h0],ql (i9 I.ex (i9 x1 sk9)) (by have:=qu I.ex;omega),fun e0=>absurd e0 h0⟩
 subst h0;obtain⟨hpk,hkm,hem0⟩:=hplace.it (by first|rfl|trivial);rw[hmn.1]at hkm;have hfm:=aj0 (hem.trans hem0);subst hpk;clear hplace her hpv hem0;go_upto_region 4 with fail;refine qz (fun w'=>∃y,w'=plus w1 y) sk9 ?_;rintro w2 x02;have x1_:=i9 x1 x02;have k1_:=i7 x02 k1;have k2_:=i7 x02 k2;clear k1 k2 k0 c3 e5 e39 e40 e41 hM1 l1 l0 I1 x1;have x1:=x1_;obtain⟨k1,k2⟩:=And.intro k1_ k2_;clear k1_ k2_ x1_;have I1:=I.on x1;have k0:=I1.bx;have hM1:=hE.mh.ex x1;have hgq:=F4 I1.own.ml k1 dc0;have hgp:=F4 I1.own.ml k0 dc0;have hgt:=F4 I1.own.ml k2 dc0;have hqp1:q+1≠p:=om0;refine zR 14 m1S (m1Φ T w2 p q h x s e m k (Value.ownBlock (.slice h.ma h.mn h.mc))) (N8 10 [9] (Value.ownBlock (.slice h.ma h.mn h.mc))) P3 (QP _) kr0 kr0 dc0 (a5F T w2 p q h x s e m k (Value.ownBlock (.slice h.ma h.mn h.mc))) ?steps ?fin
 case steps=>
  refine⟨?_,?_,?_,?_,?_,?_,?_,?_,?_,?_,?_,?_,?_,?_,trivial⟩<;>intro a D w' hg hfree hdeep hD
  ·have f0_:=hfree 0 kr0;simp only[m1Φ,got]at f0_;simp[go_sem]at f0_;unfold Oper.wp;simp[go_sem,execOp,Act.eval,↓IntWalk.iteOmega,f0_];exact⟨_,rfl,qp dc0 (j5 _),by simp[m1Φ,upd]⟩
  ·have f0_:=hfree 0 kr0;simp only[m1Φ,got]at f0_;simp[go_sem]at f0_;unfold Oper.wp;simp[go_sem,execOp,Act.eval,↓IntWalk.iteOmega,f0_];exact⟨_,rfl,qp dc0 (j5 _),by simp[m1Φ,upd]⟩
  ·have d1:=hdeep 1 kr0;simp only[m1Φ,got]at d1;simp[go_sem]at d1;unfold Oper.wp;simp[go_sem,execOp,Act.eval,↓IntWalk.iteOmega,d1];exact⟨_,rfl,qp dc0 (j5 _),by simp[m1Φ,upd]⟩
  ·have d2:=hdeep 2 kr0;simp only[m1Φ,got]at d2;simp[go_sem]at d2;unfold Oper.wp;simp[go_sem,execOp,Act.eval,↓IntWalk.iteOmega,d2];exact⟨_,rfl,qp dc0 (j5 _),by simp[m1Φ,upd]⟩
  ·have d3:=hdeep 3 kr0;simp only[m1Φ,got]at d3;simp[go_sem]at d3;unfold Oper.wp;simp[go_sem,execOp,Act.eval,↓IntWalk.iteOmega,d3];exact⟨_,rfl,qp dc0 (j5 _),by simp[m1Φ,upd]⟩
  ·have d4:=hdeep 4 kr0;simp only[m1Φ,got]at d4;simp[go_sem]at d4;have kp:=qI hg.t hgp k0;have cc3:=k9 (i:=3) kp rfl;unfold Oper.wp;simp[go_sem,execOp,Act.eval,↓IntWalk.iteOmega,d4,cc3];exact⟨_,rfl,qp dc0 (j5 _),by simp[m1Φ,upd]⟩
  ·have f6_:=hfree 6 kr0;simp only[m1Φ,got]at f6_;simp[go_sem]at f6_;unfold Oper.wp;simp[go_sem,execOp,Act.eval,↓IntWalk.iteOmega,f6_];exact⟨_,rfl,qp dc0 (j5 _),by simp[m1Φ,upd]⟩
  ·have f3_:=hfree 3 kr0;simp only[m1Φ,got]at f3_;simp[go_sem]at f3_;unfold Oper.wp;simp[go_sem,execOp,Act.eval,↓IntWalk.iteOmega,f3_];exact⟨_,rfl,qp dc0 (j5 _),by simp[m1Φ,upd]⟩
  ·have d7:=hdeep 7 kr0;simp only[m1Φ,got]at d7;simp[go_sem]at d7;have kq:=qI hg.t hgq k1;have ci39:=k9 kq i39;have ci40:=k9 kq i40;have ci41:=k9 kq i41;unfold Oper.wp;simp[go_sem,execOp,Act.eval,↓IntWalk.iteOmega,d7,ci39,ci40,ci41];exact⟨_,rfl,qp dc0 (j5 _),by simp[m1Φ,upd];rfl⟩
  ·have e8:=hdeep 8 kr0;simp only[m1Φ,got]at e8;simp at e8;obtain⟨x9,rfl⟩:=Qp hg (r:=9) dc0 hD;unfold Oper.wp;simp[go_sem,execOp,Act.eval,↓IntWalk.iteOmega,e8];refine(a3d (hM1.ex ⟨x9,rfl⟩) hfm).mono ?_;rintro r w4 ⟨h3,p3,rfl,hw4,o2⟩;exact⟨_,rfl,qp dc0 hw4,h3,p3,by simp[upd],y9 _,fun _=>o2.base (qu (i9 I1.ex ⟨x9,rfl⟩))⟩
  ·have e5:=hdeep 5 kr0;have e6:=hdeep 6 kr0;obtain⟨h3,p3,e9,D9,o9⟩:=hdeep 9 kr0;have o3:=o9 hD;obtain⟨x9,rfl⟩:=B7 hg.t hD;simp only[m1Φ,got]at e5 e6 e9;simp at e5 e6 e9;unfold Oper.wp;simp[go_sem,execOp,Act.eval,↓IntWalk.iteOmega,e5,e6,e9];refine(a39 T h.ma h.mn h.mc x.mh k h3 _ (i9 I1.ex ⟨x9,rfl⟩) (I1.own.ml.ex ⟨x9,rfl⟩) hkm om0).mono ?_;rintro r w4 ⟨a4,n4,c4,rfl,hx4,on4,hgr4⟩;exact⟨_,rfl,aj9 hgr4 hD (fun r hr=>by simp only[List.mem_cons,List.not_mem_nil,or_false]at hr;subst hr;exact D9),a4,n4,c4,_,by simp[upd],y9 _,hx4,(I1.own.ex ⟨x9,rfl⟩).putMesh o3 hkm hgr4 on4⟩
  ·have d0:=hdeep 0 kr0;simp only[m1Φ,got]at d0;simp[go_sem]at d0;unfold Oper.wp;simp[go_sem,execOp,Act.eval,↓IntWalk.iteOmega,d0];exact⟨_,rfl,qp dc0 (j5 _),by simp[m1Φ,upd]⟩
  ·have d11:=hdeep 11 kr0;simp only[m1Φ,got]at d11;simp[go_sem]at d11;unfold Oper.wp;simp[go_sem,execOp,Act.eval,↓IntWalk.iteOmega,d11];exact⟨_,rfl,qp dc0 (j5 _),by simp[m1Φ,upd]⟩
  ·have d12:=hdeep 12 kr0;simp only[m1Φ,got]at d12;simp[go_sem]at d12;unfold Oper.wp;simp[go_sem,execOp,Act.eval,↓IntWalk.iteOmega,d12];exact⟨_,rfl,qp dc0 (j5 _),by simp[m1Φ,upd]⟩
 case fin=>
  rintro t D w9 hDa hg hΦ;obtain⟨a4,n4,c4,x',e37,_,hxT,own⟩:=hΦ 10 dc0;have e40:=hΦ 13 dc0;have e33:=hΦ 6 dc0;simp only[m1Φ]at e40 e33;have kp:=qI hg.t hgp k0;have cp:=k9 (i:=3) kp rfl;have zp:=j9 (i:=3) kp;have k3:=qI hg.t hgt k2;simp only[zh,List.take_succ_cons,List.take_zero,List.drop_succ_cons,List.drop_zero,e37,e40,e33];simp only[Act.put];simp only[List.setIfInBounds_toArray,List.set_cons_succ,List.set_cons_zero];clear hΦ e37 e40 e33;have hTq:T.heap.size≤q+1:=by have:=qu I.ex;omega
  go_upto_region 5 with fail;refine qz (fun w'=>UwI T w' p (a55 h a4 n4 c4) x' ⟨s.g,s.ns,zU s.ms k m,s.ts,s.root⟩∧w'.heap[q+1]?=some (.cells #[.int .i64 0,.int .i64 0,.int .i64 0] 36)) ⟨⟨qb hxT I.hp,own.set_other kp dc0,by have:=y8 (i:=3) (u:=.slice a4 n4 c4) kp;exact this,I.hp⟩,qj k3 om0⟩ ?_;clear own kp cp zp k3 hxT;rintro w3 ⟨I3,k2⟩;go_wp2_with (refine j6 rfl 36 (Operand.tmp 4) _ rfl (q+1) [.int .i64 0,.int .i64 0,.int .i64 k] rfl rfl _ _ k2 kr0 rfl (by intro v hv;simp at hv;rcases hv with rfl|rfl<;>rfl) ?_);exact bodyPost_ret (zv Tryz.results68 _ _ (q+1) 36 #[.int .i64 0,.int .i64 0,.int .i64 k] _ _ (.int .i64 0) rfl rfl (p9 k2) Tryz.underlying36 rfl kr0) rfl ⟨rfl,ql I3.ex hTq,fun _=>⟨_,_,I3.took k2 hTq⟩⟩
end
end Go.Proofs.YtcekcihijdipoaaGreat
