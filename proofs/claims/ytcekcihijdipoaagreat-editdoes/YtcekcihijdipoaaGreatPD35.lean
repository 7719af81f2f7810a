/- A pack of texts: EdDoL, EdDo3. -/
import Derived.Test.YtcekcihijdipoaaGreatPD34
namespace Go.Proofs.YtcekcihijdipoaaGreat
set_option maxRecDepth 100000
set_option maxHeartbeats 16000000
open Go.RowKit Go.ChangeShapes Go.WideShapes Go.ChangeAt
set_option linter.unusedSimpArgs false
set_option linter.unusedVariables false
attribute [local go_sem] qn qZ A2 zg zz zA t5 qJ zf qO qD t6
section
structure a4z (l:List Sl) (a0 a1:Int) (v:Bool):Prop where
 it:qG l a0 a1=v
def l1S (i:Nat):List Nat:=match i with|0=>[32]|1=>[33]|2=>[34]|3=>[35]|4=>[36]|5=>[37]|6=>[38]|7=>[39]|8=>[40]|9=>[41]|10=>[42]|11=>[43]|12=>[44]|13=>[45]|14=>[46,45]|15=>[47]|16=>[48]|_=>[]
def l1Φ (T:World) (p q:Nat) (h:SH) (x:SX) (s:Sc) (e:EH) (g':Gr) (er:Int) (gq:Option Nat) (i:Nat) (t:Nat→Value) (D:Nat→Bool) (w':World):Prop:=match i with
 |0=>t 32=.agg #[.int .i64 0,.int .i64 0,.int .i64 0]
 |1=>t 33=.pointer (some ⟨p,0,none⟩)
 |2=>t 34=.pointer (some ⟨p,0,none⟩)
 |3=>t 35=.pointer (some ⟨p,0,none⟩)
 |4=>t 36=.pointer (some ⟨p,0,none⟩)
 |5=>t 37=.pointer (some ⟨p,0,none⟩)
 |6=>t 38=.agg #[.slice h.ga h.gn h.gc,.slice h.ka h.kn h.kc]∧D 6=true
 |7=>t 39=.pointer (some ⟨q,1,none⟩)
 |8=>t 40=.agg #[.int .i64 e.h0,.int .i64 e.h1]
 |9=>t 41=.pointer (some ⟨q,3,none⟩)
 |10=>t 42=.agg #[.int .i64 e.c0,.int .i64 e.c1]
 |11=>t 43=.pointer (some ⟨q,5,none⟩)
 |12=>t 44=.int .i64 e.at'
 |13=>∃a c k kc hs,t 45=.tuple #[.agg #[.slice a g'.sl.length c,.slice k g'.ks.length kc],.int .i64 er]∧D 13=true∧(D 16=false→zS T w' a g'.sl.length c k g'.ks.length kc hs g')
 |14=>∃v,t 45=.tuple #[v,.int .i64 er]∧t 46=v
 |15=>t 47=.int .i64 er
 |16=>t 48=.int .i64 er∧D 16=true∧(∃y,w'=plus T y)∧(er=0→∃h' x',UwI T w' p h' x' ⟨g',s.ns,s.ms,s.ts,s.root⟩)
 |_=>True
theorem a5B(T:World)(p q:Nat)(h:SH)(x:SX)(s:Sc)(e:EH)(g':Gr)(er:Int)(gq:Option Nat):∀i t t' D w D' w',l1Φ T p q h x s e g' er gq i t D w→(∀s∈l1S i,t' s=t s)→N8 16 [6,13] gq D w D' w'→l1Φ T p q h x s e g' er gq i t' D' w':=by
 intro i t t' D w D' w' h_ hs' ht
 match i with
 |0=>exact(hs' 32 dc0).trans h_
 |1=>exact(hs' 33 dc0).trans h_
 |2=>exact(hs' 34 dc0).trans h_
 |3=>exact(hs' 35 dc0).trans h_
 |4=>exact(hs' 36 dc0).trans h_
 |5=>exact(hs' 37 dc0).trans h_
 |6=>exact⟨(hs' 38 dc0).trans h_.1,ht.m 6 h_.2⟩
 |7=>exact(hs' 39 dc0).trans h_
 |8=>exact(hs' 40 dc0).trans h_
 |9=>exact(hs' 41 dc0).trans h_
 |10=>exact(hs' 42 dc0).trans h_
 |11=>exact(hs' 43 dc0).trans h_
 |12=>exact(hs' 44 dc0).trans h_
 |13=>obtain⟨a,c,k,kc,hs,e1,e2,e3⟩:=h_;exact⟨a,c,k,kc,hs,(hs' 45 dc0).trans e1,ht.m 13 e2,fun q=>by have q2:D 16=false:=(by cases e9:D 16;rfl;rw[ht.m 16 e9]at q;cases q);obtain⟨x,hx⟩:=M1 ht.t (q2.trans q.symm);exact(e3 q2).ex ⟨x,hx⟩⟩
 |14=>obtain⟨v,e1,e2⟩:=h_;exact⟨v,(hs' 45 dc0).trans e1,(hs' 46 dc0).trans e2⟩
 |15=>exact(hs' 47 dc0).trans h_
 |16=>obtain⟨e1,e2,e3,e4⟩:=h_;exact⟨(hs' 48 dc0).trans e1,ht.m 16 e2,i9 e3 (C7 ht e2),fun q=>by obtain⟨a,b,c⟩:=e4 q;exact⟨a,b,c.on (C7 ht e2)⟩⟩
 |i+17=>trivial
theorem a3P{T w:World}{p:Nat}{h:SH}{x:SX}{s:Sc}(I:UwI T w p h x s)(hm:C2 s=true)(e:EH)(n:Nd)(m:Ms)(t:Tp)(hk:e.kind=3):
  Calls Tryz.prog 65 #[.pointer (some ⟨p,0,none⟩),vE e] w fun r w'=>ZY T p (K7 s (qt e n m t)) 0 0 0 (qF s (qt e n m t)) r w':=by
 have hA:=I.own.at (A7 hm);have hG:=hA.g;obtain⟨hgk,hnl,_,_,_⟩:=B6 hm;obtain⟨hok,hgl,_,_⟩:=zx hgk;have hs:K7 s (qt e n m t)=⟨ae9 s.g (e.h0,e.h1) (e.c0,e.c1) e.at',s.ns,s.ms,s.ts,s.root⟩:=by simp[K7,qt,hk]
 have i1:(fE e)[1]?=some (.int .i64 e.h0):=rfl;have i2:(fE e)[2]?=some (.int .i64 e.h1):=rfl;have i3:(fE e)[3]?=some (.int .i64 e.c0):=rfl;have i4:(fE e)[4]?=some (.int .i64 e.c1):=rfl;have i5:(fE e)[5]?=some (.int .i64 e.at'):=rfl;obtain⟨b1,hb1⟩:∃b,qG s.g.sl e.h0 e.h1=b:=⟨_,rfl⟩;obtain⟨b2,hb2⟩:∃b,qG s.g.sl e.c0 e.c1=b:=⟨_,rfl⟩;obtain⟨kd,hkd⟩:∃k,(nth nd0 s.ns e.h0.toNat).f.kind=k:=⟨_,rfl⟩;obtain⟨er,her⟩:∃v,D5 s.g (e.h0,e.h1) (e.c0,e.c1) e.at'=v:=⟨_,rfl⟩;obtain⟨gr,hgr⟩:∃v,zM s.g (e.h0,e.h1) (e.c0,e.c1) e.at'=v:=⟨_,rfl⟩;have hres:er=0→gr=ae9 s.g (e.h0,e.h1) (e.c0,e.c1) e.at':=fun e0=>by rw[←hgr,zM,her,if_pos e0]
 have he:qF s (qt e n m t)=if b1=true∧b2=true then(if kd=5 then 100 else er)else 50:=by simp[qF,qt,hk,hb1,hb2,hkd,her]
 obtain⟨E,hE⟩:∃E:Int,(if b1=true∧b2=true then(if kd=5 then 100 else er)else 50)=E:=⟨_,rfl⟩;rw[hE]at he;rw[he,hs]
 replace hE:=qw.mk hE
 have hslot:b1=true→∃k:Nat,e.h0=k∧k<s.ns.length:=fun q=>by have:=A8 (hb1.trans q);exact⟨e.h0.toNat,om0,om0⟩
 have hns:=hA.r.ns;have hnl2:=hA.r.nl;have hnn:=hA.nn;have V1:a4z s.g.sl e.h0 e.h1 b1:=⟨hb1⟩;have V2:a4z s.g.sl e.c0 e.c1 b2:=⟨hb2⟩
 replace hslot:=qw.mk hslot
 replace hkd:=qw.mk hkd
 clear he hs hb1 hb2 hA hm hnl hgl hgk;show Calls Tryz.prog 65 #[.pointer (some ⟨p,0,none⟩),.agg (fE e).toArray] w _;obtain⟨ce,hce⟩:∃c,fE e=c:=⟨_,rfl⟩;rw[hce]at i1 i2 i3 i4 i5 ⊢;obtain⟨q,hq⟩:∃q,w.heap.size=q:=⟨_,rfl⟩;have lp:=qi I.bx;go_enter Tryz.func65,Tryz.ntmps65;go_upto_region 1 with fail;refine qz (fun w'=>(∃y,w'=plus w y)∧w'.heap[q]?=some (.cells ce.toArray 66)∧w'.heap[q+1]?=some (.cells #[.int .i64 0,.int .i64 0,.int .i64 0] 36)) ⟨sk9,hq▸qm (qc _ _),by rw[←hq,←j8 w];exact qc _ _⟩ ?_
 try simp only[hq]
 rintro w0 ⟨x1,k1,k2⟩;have I0:=I.on x1;have e1:=k9 k1 i1;have e2:=k9 k1 i2;have e3:=k9 k1 i3;have e4:=k9 k1 i4;have l1:=qi k1;cases b1
 ·obtain rfl:E=50:=by rw[←hE.it];simp
  go_wp2_with (first|(go_at_call 119;refine pq0 (Qi (I0.on sk9) hok _ _ (a4z.it (by first|exact V1|exact V2))) fun nx=>?_)|(refine j6 rfl 36 (Operand.tmp 4) _ rfl (q+1) [.int .i64 0,.int .i64 0,.int .i64 0] rfl rfl _ _ (i7 sk9 k2) kr0 rfl (by intro v hv;simp at hv;subst hv;rfl) ?_));exact bodyPost_ret (zv Tryz.results65 _ _ (q+1) 36 #[.int .i64 0,.int .i64 0,.int .i64 0] _ _ (.int .i64 50) rfl rfl (p9 (i7 sk9 k2)) Tryz.underlying36 rfl kr0) rfl ⟨rfl,ql (i9 I.ex (i9 x1 sk9)) (by have:=qu I.ex;omega),fun e0=>by cases e0⟩
 cases b2
 ·obtain rfl:E=50:=by rw[←hE.it];simp
  go_wp2_with (first|(go_at_call 119;refine pq0 (Qi (I0.on sk9) hok _ _ (a4z.it (by first|exact V1|exact V2))) fun nx=>?_)|(refine j6 rfl 36 (Operand.tmp 4) _ rfl (q+1) [.int .i64 0,.int .i64 0,.int .i64 0] rfl rfl _ _ (i7 sk9 k2) kr0 rfl (by intro v hv;simp at hv;subst hv;rfl) ?_));exact bodyPost_ret (zv Tryz.results65 _ _ (q+1) 36 #[.int .i64 0,.int .i64 0,.int .i64 0] _ _ (.int .i64 50) rfl rfl (p9 (i7 sk9 k2)) Tryz.underlying36 rfl kr0) rfl ⟨rfl,ql (i9 I.ex (i9 x1 sk9)) (by have:=qu I.ex;omega),fun e0=>by cases e0⟩
 go_upto_region 3 with(first|(go_at_call 119;refine pq0 (Qi (I0.on sk9) hok _ _ (a4z.it (by first|exact V1|exact V2))) fun nx=>?_)|(refine j6 rfl 36 (Operand.tmp 4) _ rfl (q+1) [.int .i64 0,.int .i64 0,.int .i64 0] rfl rfl _ _ (i7 sk9 k2) kr0 rfl (by intro v hv;simp at hv;subst hv;rfl) ?_));refine qz (fun w'=>∃y,w'=plus w0 y) sk9 ?_;rintro w1 x01;obtain⟨k,hk0,hkn⟩:=hslot.it (by first|rfl|trivial);have x1':=i9 x1 x01;have k1':=i7 x01 k1;have k2':=i7 x01 k2;have I1:=I.on x1';clear e1 e2 e3 e4 l1 k1 k2 I0 V1 V2 hslot;obtain⟨k1,k2⟩:=And.intro k1' k2';clear k1' k2';have k0:=I1.bx;have c0:=k9 (i:=0) k0 rfl;have c1:=k9 (i:=1) k0 rfl;have c2:=k9 (i:=2) k0 rfl;have e1:=k9 k1 i1;rw[hk0]at e1;have hnk:k<h.nn:=om0;have ik:(k:Int)<(h.nn:Int):=om0;obtain⟨gN,oN,hna,hgN,hcN⟩:=(hnl2.ex x1').some om0;rw[hna]at c2;have kc:=F5 (d:=nh0) hnn.2 ag0 hcN hnk 0 _ rfl;rw[Nat.add_zero]at kc;have a1:=hns.one k om0;have hkd2:(nth nh0 x.nh k).f.kind=kd:=by rw[a1.f,←hkd.it,hk0,Int.toNat_natCast]
 rw[hkd2]at kc;have lq:=qi k1;have hqp:q≠p:=om0;have hqp1:q+1≠p:=om0;have hG1:=hG.ex x1';refine qg kr0 kr0 ?_
 (repeat(go_big_quiet_step (fail)))
 refine wpQuiet_nil ?_;rintro _ ⟨x2,rfl⟩;clear kc hcN a1 hkd hkd2 hns hnl2;by_cases h5:kd=5
 ·subst h5;obtain rfl:E=100:=by rw[←hE.it];simp
  go_wp2_with (refine j6 rfl 36 (Operand.tmp 4) _ rfl (q+1) [.int .i64 0,.int .i64 0,.int .i64 0] rfl rfl _ _ (i7 sk9 k2) kr0 rfl (by intro v hv;simp at hv;subst hv;rfl) ?_);exact bodyPost_ret (zv Tryz.results65 _ _ (q+1) 36 #[.int .i64 0,.int .i64 0,.int .i64 0] _ _ (.int .i64 100) rfl rfl (p9 (i7 sk9 k2)) Tryz.underlying36 rfl kr0) rfl ⟨rfl,ql (i9 I.ex (i9 x1' sk9)) (by have:=qu I.ex;omega),fun e0=>by cases e0⟩
 have d5:(kd==5)=false:=by rw[beq_eq_false_iff_ne];exact h5
 obtain rfl:E=er:=by rw[←hE.it];simp[h5]
 clear hE;go_upto_region 5 with fail;refine qz (fun w'=>∃y,w'=plus w1 y) sk9 ?_;rintro w2 x02;have x1:=i9 x1' x02;have k1_:=i7 x02 k1;have k2_:=i7 x02 k2;have I2:=I.on x1;have hG2:=hG.ex x1;clear I1 hG1 k1 k2 k0 c0 c1 c2 e1 lq x1';obtain⟨k1,k2⟩:=And.intro k1_ k2_;clear k1_ k2_;have I1:=I2;have hG1:=hG2;clear I2 hG2;have k0:=I1.bx;have c0:=k9 (i:=0) k0 rfl;have c1:=k9 (i:=1) k0 rfl;refine zR 17 l1S (l1Φ T p q h x s e gr E (some p)) (N8 16 [6,13] (some p)) P3 (QP _) kr0 kr0 dc0 (a5B T p q h x s e gr E (some p)) ?steps ?fin
 case steps=>
  refine⟨?_,?_,?_,?_,?_,?_,?_,?_,?_,?_,?_,?_,?_,?_,?_,?_,?_,trivial⟩<;>intro a D w' hg hfree hdeep hD
  ·unfold Oper.wp;simp[go_sem,execOp,Act.eval,↓IntWalk.iteOmega];exact⟨_,rfl,qp dc0 (j5 _),by simp[l1Φ,upd]⟩
  ·have f0_:=hfree 0 kr0;simp only[l1Φ,got]at f0_;simp[go_sem]at f0_;unfold Oper.wp;simp[go_sem,execOp,Act.eval,↓IntWalk.iteOmega,f0_];exact⟨_,rfl,qp dc0 (j5 _),by simp[l1Φ,upd]⟩
  ·have f0_:=hfree 0 kr0;simp only[l1Φ,got]at f0_;simp[go_sem]at f0_;unfold Oper.wp;simp[go_sem,execOp,Act.eval,↓IntWalk.iteOmega,f0_];exact⟨_,rfl,qp dc0 (j5 _),by simp[l1Φ,upd]⟩
  ·have d2:=hdeep 2 kr0;simp only[l1Φ,got]at d2;simp[go_sem]at d2;unfold Oper.wp;simp[go_sem,execOp,Act.eval,↓IntWalk.iteOmega,d2];exact⟨_,rfl,qp dc0 (j5 _),by simp[l1Φ,upd]⟩
  ·have d3:=hdeep 3 kr0;simp only[l1Φ,got]at d3;simp[go_sem]at d3;unfold Oper.wp;simp[go_sem,execOp,Act.eval,↓IntWalk.iteOmega,d3];exact⟨_,rfl,qp dc0 (j5 _),by simp[l1Φ,upd]⟩
  ·have d4:=hdeep 4 kr0;simp only[l1Φ,got]at d4;simp[go_sem]at d4;unfold Oper.wp;simp[go_sem,execOp,Act.eval,↓IntWalk.iteOmega,d4];exact⟨_,rfl,qp dc0 (j5 _),by simp[l1Φ,upd]⟩
  ·have d5:=hdeep 5 kr0;simp only[l1Φ,got]at d5;simp[go_sem]at d5;obtain⟨x9,rfl⟩:=Qp hg (r:=6) dc0 hD;have cc0:=qf ⟨x9,rfl⟩ c0;have cc1:=qf ⟨x9,rfl⟩ c1;unfold Oper.wp;simp[go_sem,execOp,Act.eval,↓IntWalk.iteOmega,d5,cc0,cc1];exact⟨_,rfl,qp dc0 (j5 _),by simp[l1Φ,upd],y9 _⟩
  ·have f3_:=hfree 3 kr0;simp only[l1Φ,got]at f3_;simp[go_sem]at f3_;unfold Oper.wp;simp[go_sem,execOp,Act.eval,↓IntWalk.iteOmega,f3_];exact⟨_,rfl,qp dc0 (j5 _),by simp[l1Φ,upd]⟩
  ·have d7:=hdeep 7 kr0;simp only[l1Φ,got]at d7;simp[go_sem]at d7;have kq:=qI hg.t (fun e=>hqp (by cases e;rfl)) k1;have ci1:=k9 kq i1;have ci2:=k9 kq i2;unfold Oper.wp;simp[go_sem,execOp,Act.eval,↓IntWalk.iteOmega,d7,ci1,ci2];exact⟨_,rfl,qp dc0 (j5 _),by simp[l1Φ,upd]⟩
  ·have f3_:=hfree 3 kr0;simp only[l1Φ,got]at f3_;simp[go_sem]at f3_;unfold Oper.wp;simp[go_sem,execOp,Act.eval,↓IntWalk.iteOmega,f3_];exact⟨_,rfl,qp dc0 (j5 _),by simp[l1Φ,upd]⟩
  ·have d9:=hdeep 9 kr0;simp only[l1Φ,got]at d9;simp[go_sem]at d9;have kq:=qI hg.t (fun e=>hqp (by cases e;rfl)) k1;have ci3:=k9 kq i3;have ci4:=k9 kq i4;unfold Oper.wp;simp[go_sem,execOp,Act.eval,↓IntWalk.iteOmega,d9,ci3,ci4];exact⟨_,rfl,qp dc0 (j5 _),by simp[l1Φ,upd]⟩
  ·have f3_:=hfree 3 kr0;simp only[l1Φ,got]at f3_;simp[go_sem]at f3_;unfold Oper.wp;simp[go_sem,execOp,Act.eval,↓IntWalk.iteOmega,f3_];exact⟨_,rfl,qp dc0 (j5 _),by simp[l1Φ,upd]⟩
  ·have d11:=hdeep 11 kr0;simp only[l1Φ,got]at d11;simp[go_sem]at d11;have kq:=qI hg.t (fun e=>hqp (by cases e;rfl)) k1;have ci5:=k9 kq i5;unfold Oper.wp;simp[go_sem,execOp,Act.eval,↓IntWalk.iteOmega,d11,ci5];exact⟨_,rfl,qp dc0 (j5 _),by simp[l1Φ,upd]⟩
  ·obtain⟨e12,D6⟩:=hdeep 6 kr0;have e14:=hdeep 8 kr0;have e15:=hdeep 10 kr0;have e16:=hdeep 12 kr0;simp only[l1Φ,got]at e12 e14 e15 e16;simp at e12 e14 e15 e16;obtain⟨x9,rfl⟩:=Qp hg (r:=13) dc0 hD;have hU:=a1z h.ga h.gn h.gc h.ka h.kn h.kc x.gr s.g e.h0 e.h1 e.c0 e.c1 e.at' (plus w2 x9) (hG1.ex sk9);rw[hgr,her]at hU;unfold Oper.wp;simp[go_sem,execOp,Act.eval,↓IntWalk.iteOmega,e12,e14,e15,e16];refine hU.mono ?_;rintro r w4 ⟨a2,c2,k2_,kc2,hs2,rfl,hw4,o2⟩;exact⟨_,rfl,qp dc0 hw4,a2,c2,k2_,kc2,hs2,by simp[upd],y9 _,fun _=>o2.base (qu (i9 I1.ex ⟨x9,rfl⟩))⟩
  ·obtain⟨a2,c2,k2_,kc2,hs2,e17,_,_⟩:=hdeep 13 kr0;have g17:=e17;simp only[got]at g17;simp at g17;unfold Oper.wp;simp[go_sem,execOp,Act.eval,↓IntWalk.iteOmega,g17];exact⟨_,rfl,qp dc0 (j5 _),.agg #[.slice a2 gr.sl.length c2,.slice k2_ gr.ks.length kc2],by simp[upd];exact e17,by simp[upd]⟩
  ·obtain⟨a2,c2,k2_,kc2,hs2,e17,_,_⟩:=hdeep 13 kr0;have g17:=e17;simp only[got]at g17;simp at g17;unfold Oper.wp;simp[go_sem,execOp,Act.eval,↓IntWalk.iteOmega,g17];exact⟨_,rfl,qp dc0 (j5 _),by simp[l1Φ,upd]⟩
  ·have e7:=hdeep 1 kr0;obtain⟨a2,c2,k2_,kc2,hs2,e17,D13,o2⟩:=hdeep 13 kr0;obtain⟨v,e17',e18⟩:=hdeep 14 kr0;have e19:=hdeep 15 kr0;obtain⟨_,D6⟩:=hdeep 6 kr0;rw[e17]at e17';cases e17';have o3:=o2 hD;obtain⟨x9,rfl⟩:=B7 hg.t hD;have I2:=I1.on ⟨x9,rfl⟩;simp only[l1Φ,got]at e7 e18 e19;simp at e7 e18 e19;unfold Oper.wp;simp[go_sem,execOp,Act.eval,↓IntWalk.iteOmega,e7,e18,e19];refine(af6 I2 _ _ _ _ _ _ hs2 gr o3 E).mono ?_;rintro r w4 ⟨rfl,hgw,hz,hnz⟩;refine⟨_,rfl,aj9 hgw hD (fun r hr=>?_),by simp[upd],y9 _,?_,fun e0=>⟨_,_,hz e0⟩⟩
   ·simp only[List.mem_cons,List.not_mem_nil,or_false]at hr;rcases hr with rfl|rfl
    ·exact D6
    ·exact D13
   ·by_cases e0:E=0
    ·exact(hz e0).ex
    ·exact i9 I2.ex (hnz e0)
 case fin=>
  rintro t D w9 hDa hg hΦ;have r0:=hΦ 0 dc0;obtain⟨e20,_,hxT,hu⟩:=hΦ 16 dc0;simp only[l1Φ]at r0;have k3:=qI hg.t (fun e=>hqp1 (by cases e;rfl)) k2;simp only[zh,List.take_succ_cons,List.take_zero,List.drop_succ_cons,List.drop_zero,r0,e20];simp only[Act.put];simp only[List.setIfInBounds_toArray,List.set_cons_succ,List.set_cons_zero];clear hΦ r0 e20;have hTq:T.heap.size≤q+1:=by have:=qu I.ex;omega
  go_wp2_with (refine j6 rfl 36 (Operand.tmp 4) _ rfl (q+1) [.int .i64 0,.int .i64 0,.int .i64 0] rfl rfl _ _ k3 kr0 rfl (by intro v hv;simp at hv;subst hv;rfl) ?_);exact bodyPost_ret (zv Tryz.results65 _ _ (q+1) 36 #[.int .i64 0,.int .i64 0,.int .i64 0] _ _ (.int .i64 E) rfl rfl (p9 k3) Tryz.underlying36 rfl kr0) rfl ⟨rfl,ql hxT hTq,fun e0=>by obtain⟨h',x',U⟩:=hu e0;rw[hres e0]at U;exact⟨h',x',U.took k3 hTq⟩⟩
end
section
def sh0:SH:=⟨none,0,0,none,0,0,none,0,0,none,0,0,none,0,0,0,0⟩
def sx0:SX:=⟨[],[],[],[],[]⟩
theorem a1S{T w:World}:zi T w sh0 sx0 sc0:=⟨zK,zd,rfl,fun k hk=>by simp[sx0]at hk,zd,rfl,fun k hk=>by simp[sx0]at hk,zd,rfl,fun k hk=>by simp[sx0]at hk,rfl,rfl⟩
def a7v (s:Sc) (d:Ed):Value:=.agg #[.int .i64 (qT s d).1,.int .i64 (qT s d).2,.int .i64 (v8 s d)]
def az4 (w:World) (s:Sc) (d:Ed) (e:Ending) (w':World):Prop:=∃h' x',e=.returned (.tuple #[.agg (qa h').toArray,a7v s d,.int .i64 (P7 s d)])∧(∃y,w'=plus w y)∧zi w w' h' x' (a4Z s d)
theorem qy{P:Program}{fn:Func}{p q r:Tmp}{ty ty2:TypeId}(h:fn.results=#[.cell p ty,.cell q ty2,.tmp r])(tmps:Array Value)(w:World)(g g2:Nat)(t t2:TypeId)(cs cs2:Array Value)(d d2:TypeDesc)(v:Value)
  (hp:tmps.getD p undef=.pointer (some ⟨g,0,none⟩)) (hq:tmps.getD q undef=.pointer (some ⟨g2,0,none⟩)) (hr:tmps.getD r undef=v) (hg:w.heap[g]?=some (.cells cs t)) (hg2:w.heap[g2]?=some (.cells cs2 t2))
  (hu:P.underlying ty=some d) (hd:(match d with|.struct _|.array _ _=>true|_=>false)=true) (hi:(P.info? ty).map (·.size)=some cs.size)
  (hu2:P.underlying ty2=some d2) (hd2:(match d2 with|.struct _|.array _ _=>true|_=>false)=true) (hi2:(P.info? ty2).map (·.size)=some cs2.size):
  (results fn tmps).run P w=.ok (.tuple #[.agg cs,.agg cs2,v]) w:=by
 have hp':tmps[p]?.getD undef=.pointer (some ⟨g,0,none⟩):=by simpa using hp
 have hq':tmps[q]?.getD undef=.pointer (some ⟨g2,0,none⟩):=by simpa using hq
 have hr':tmps[r]?.getD undef=v:=by simpa using hr
 simp[results,h,hp',hq',hr',asAddr,run_loadVar_row w g t ty cs _ d hg hu hd hi,run_loadVar_row w g2 t2 ty2 cs2 _ d2 hg2 hu2 hd2 hi2]
theorem QG{s:Sc}{d:Ed}{er:Int}(h:P7 s d=er)(h0:er≠0):a4Z s d=sc0∧qT s d=(0,0)∧v8 s d=0:=by
 subst h;exact⟨by rw[a4Z,if_neg h0],by rw[qT,if_neg (fun e=>h0 e.1)],by rw[v8,if_neg h0]⟩
theorem V9{w w':World}{s:Sc}{d:Ed}{er:Int}(h:P7 s d=er)(h0:er≠0)(hw:∃y,w'=plus w y):az4 w s d (.returned (.tuple #[.agg (qa sh0).toArray,.agg #[.int .i64 0,.int .i64 0,.int .i64 0],.int .i64 er])) w':=by
 obtain⟨h1,h2,h3⟩:=QG h h0;exact⟨sh0,sx0,by rw[a7v,h2,h3,h],hw,by rw[h1];exact a1S⟩
theorem a3h{s:Sc}{d:Ed}(h:d.kind<1∨8<d.kind):qF s d=2:=by
 unfold qF;rw[if_neg om0,if_neg om0,if_neg om0,if_neg om0,if_neg om0,if_neg om0,if_neg om0,if_neg om0]
theorem a5D{k:Int}(h:k<1∨8<k):a3A au7 k=.tuple #[.nilFunc,.bool false]:=by
 have:a4f au7 k=none:=by
  simp only[au7,a4f];rw[if_neg om0,if_neg om0,if_neg om0,if_neg om0,if_neg om0,if_neg om0,if_neg om0,if_neg om0]
 rw[a3A,this]
def ldS (i:Nat):List Nat:=match i with|0=>[21]|1=>[22]|2=>[23]|3=>[24]|4=>[20]|5=>[25]|6=>[26]|7=>[8]|_=>[]
def ldΦ (q:Nat) (kd:Int) (fv:Value) (ok:Bool) (i:Nat) (t:Nat→Value) (w':World):Prop:=match i with
 |0=>∃b,t 21=.map (some b)∧(∃V,a60 V w' b au7)
 |1=>t 22=.pointer (some ⟨q,0,none⟩)
 |2=>t 23=.int .u8 kd
 |3=>t 24=.tuple #[fv,.bool ok]
 |4=>t 20=.tuple #[fv,.bool ok]
 |5=>t 25=fv
 |6=>t 26=.bool ok
 |7=>t 8=fv
 |_=>True
theorem a2D(q:Nat)(kd:Int)(fv:Value)(ok:Bool):∀i t t' w' x,ldΦ q kd fv ok i t w'→(∀s∈ldS i,t' s=t s)→ldΦ q kd fv ok i t' (plus w' x):=by
 intro i t t' w' x h hs'
 match i with
 |0=>obtain⟨b,e1,V,e2⟩:=h;exact⟨b,(hs' 21 dc0).trans e1,V,e2.on ⟨x,rfl⟩⟩
 |1=>exact(hs' 22 dc0).trans h
 |2=>exact(hs' 23 dc0).trans h
 |3=>exact(hs' 24 dc0).trans h
 |4=>exact(hs' 20 dc0).trans h
 |5=>exact(hs' 25 dc0).trans h
 |6=>exact(hs' 26 dc0).trans h
 |7=>exact(hs' 8 dc0).trans h
 |i+8=>trivial
theorem a80{h:SH}{x:SX}{s:Sc}{e:EH}{n:Nd}{m:Ms}{t:Tp}{w:World}(hA:Zu w h x s)(hm:C2 s=false):
  Calls Tryz.prog 9 #[.agg (qa h).toArray,.agg (fE e).toArray] w fun r w'=>az4 w s (qt e n m t) r w':=by
 have hDE:P7 s (qt e n m t)=8:=by rw[P7,hm];rfl
 have ik:(fE e)[0]?=some (.int .u8 e.kind):=rfl;obtain⟨ce,hce⟩:∃c,fE e=c:=⟨_,rfl⟩;have lce:ce.length=45:=by rw[←hce];rfl
 have ace:ce.toArray.size=45:=by simpa using lce
 obtain⟨cs,hcs⟩:∃c,qa h=c:=⟨_,rfl⟩;have lcs:cs.length=7:=by rw[←hcs];rfl
 have acs:cs.toArray.size=7:=by simpa using lcs
 have CK:a7l 12 w cs (.int .i64 8):=⟨fun w' hw=>hcs▸ZG (hA.ex hw) (by rw[a17,hm];rfl)⟩;rw[hce]at ik ⊢;rw[hcs];obtain⟨q,hq⟩:∃q,w.heap.size=q:=⟨_,rfl⟩;go_enter Tryz.func9,Tryz.ntmps9;go_upto_region 1 with fail;refine qz (fun w'=>(∃y,w'=plus w y)∧w'.heap[q]?=some (.cells cs.toArray 34)∧w'.heap[q+1]?=some (.cells ce.toArray 66)∧w'.heap[q+2]?=some (.cells (qa sh0).toArray 34)∧w'.heap[q+3]?=some (.cells #[.int .i64 0,.int .i64 0,.int .i64 0] 36)) ⟨sk9,hq▸qm (qm (qm (qc _ _))),?b1,?b2,?b3⟩ ?_
 case b1=>rw[←hq,←j8 w (.cells cs.toArray 34)];exact qm (qm (qc _ _))
 case b2=>rw[show q+2=((w.alloc (.cells cs.toArray 34)).alloc (.cells ce.toArray 66)).heap.size by rw[j8,j8,hq]];exact qm (qc _ _)
 case b3=>rw[show q+3=(((w.alloc (.cells cs.toArray 34)).alloc (.cells ce.toArray 66)).alloc (.cells (qa sh0).toArray 34)).heap.size by rw[j8,j8,j8,hq]];exact qc _ _
 try simp only[hq]
 rintro w1 ⟨x1,k0,k1,k2,k3⟩;go_upto_region 2 with(first|(refine wpList_load_row rfl 34 (Operand.tmp 2) rfl q kr0 _ _ _ _ (i7 sk9 k0) Tryz.underlying34 rfl (by rw[acs];kernel_rfl) ?_)|(go_at_call 12;refine(CK.it _ (i9 x1 sk9)).mono ?_;rintro r w2 ⟨rfl,x2⟩));refine qz (fun w'=>∃y,w'=plus w1 y) (by first|exact i9 x2 (sk9)|exact sk9) ?_;rintro w3 x3;have k2_:=i7 x3 k2;have k3_:=i7 x3 k3;clear k2 k3 k0 k1;obtain⟨k2,k3⟩:=And.intro k2_ k3_;go_wp2_with (first|(refine j6 rfl 34 (Operand.tmp 4) _ rfl (q+2) (qa sh0) rfl rfl _ _ (i7 sk9 k2) kr0 kr0 (qX _) ?_)|(refine j6 rfl 36 (Operand.tmp 5) _ rfl (q+3) [.int .i64 0,.int .i64 0,.int .i64 0] rfl rfl _ _ (l9 (i7 sk9 k3) om0) kr0 rfl (by intro v hv;simp at hv;subst hv;rfl) ?_));exact bodyPost_ret (qy Tryz.results9 _ _ (q+2) (q+3) 34 36 (qa sh0).toArray #[.int .i64 0,.int .i64 0,.int .i64 0] _ _ (.int .i64 8) rfl rfl rfl (l9 (p9 (i7 sk9 k2)) om0) (p9 (l9 (i7 sk9 k3) om0)) Tryz.underlying34 rfl kr0 Tryz.underlying36 rfl kr0) rfl (V9 hDE (by first|assumption|decide) (ql (ql (i9 (i9 x1 x3) sk9) om0) om0))
theorem a87{h:SH}{x:SX}{s:Sc}{e:EH}{n:Nd}{m:Ms}{t:Tp}{w:World}(hA:Zu w h x s)(hm:C2 s=true)(hk:e.kind<1∨8<e.kind):
  Calls Tryz.prog 9 #[.agg (qa h).toArray,.agg (fE e).toArray] w fun r w'=>az4 w s (qt e n m t) r w':=by
 have hDE:P7 s (qt e n m t)=2:=by rw[P7,hm,if_pos rfl,a3h hk]
 have hlk:=a5D hk
 replace hlk:=qw.mk hlk
 obtain⟨kd,hkd⟩:∃k,e.kind=k:=⟨_,rfl⟩;rw[hkd]at hlk hk;have ik:(fE e)[0]?=some (.int .u8 e.kind):=rfl;obtain⟨ce,hce⟩:∃c,fE e=c:=⟨_,rfl⟩;have lce:ce.length=45:=by rw[←hce];rfl
 have ace:ce.toArray.size=45:=by simpa using lce
 obtain⟨cs,hcs⟩:∃c,qa h=c:=⟨_,rfl⟩;have lcs:cs.length=7:=by rw[←hcs];rfl
 have acs:cs.toArray.size=7:=by simpa using lcs
 have CK:a7l 12 w cs (.int .i64 0):=⟨fun w' hw=>hcs▸ZG (hA.ex hw) (by rw[a17,hm];rfl)⟩;rw[hce]at ik ⊢;rw[hcs];obtain⟨q,hq⟩:∃q,w.heap.size=q:=⟨_,rfl⟩;go_enter Tryz.func9,Tryz.ntmps9;go_upto_region 1 with fail;refine qz (fun w'=>(∃y,w'=plus w y)∧w'.heap[q]?=some (.cells cs.toArray 34)∧w'.heap[q+1]?=some (.cells ce.toArray 66)∧w'.heap[q+2]?=some (.cells (qa sh0).toArray 34)∧w'.heap[q+3]?=some (.cells #[.int .i64 0,.int .i64 0,.int .i64 0] 36)) ⟨sk9,hq▸qm (qm (qm (qc _ _))),?b1,?b2,?b3⟩ ?_
 case b1=>rw[←hq,←j8 w (.cells cs.toArray 34)];exact qm (qm (qc _ _))
 case b2=>rw[show q+2=((w.alloc (.cells cs.toArray 34)).alloc (.cells ce.toArray 66)).heap.size by rw[j8,j8,hq]];exact qm (qc _ _)
 case b3=>rw[show q+3=(((w.alloc (.cells cs.toArray 34)).alloc (.cells ce.toArray 66)).alloc (.cells (qa sh0).toArray 34)).heap.size by rw[j8,j8,j8,hq]];exact qc _ _
 try simp only[hq]
 rintro w1 ⟨x1,k0,k1,k2,k3⟩;rw[hkd]at ik;go_upto_region 4 with(first|(refine wpList_load_row rfl 34 (Operand.tmp 2) rfl q kr0 _ _ _ _ (i7 sk9 k0) Tryz.underlying34 rfl (by rw[acs];kernel_rfl) ?_)|(go_at_call 12;refine(CK.it _ (i9 x1 sk9)).mono ?_;rintro r w2 ⟨rfl,x2⟩));refine qz (fun w'=>∃y,w'=plus w1 y) (by first|exact i9 x2 (sk9)|exact sk9) ?_;rintro w2 x2;have k1_:=i7 x2 k1;have k2_:=i7 x2 k2;have k3_:=i7 x2 k3;clear k1 k2 k3 k0;obtain⟨k1,k2,k3⟩:=And.intro k1_ (And.intro k2_ k3_);have ek:=k9 k1 ik;refine zJ 8 ldS (ldΦ (q+1) kd .nilFunc false) kr0 kr0 dc0 (a2D (q+1) kd .nilFunc false) ?steps ?fin
 case steps=>
  refine⟨?_,?_,?_,?_,?_,?_,?_,?_,trivial⟩<;>intro a w' hg hfree hdeep<;>obtain⟨x,rfl⟩:=hg
  ·unfold Oper.wp;simp[go_sem,execOp,Act.eval,↓IntWalk.iteOmega];refine(al8 _).mono ?_;rintro r w2 ⟨b,rfl,hw2,f2⟩;exact⟨_,rfl,hw2,b,by simp[upd],_,f2⟩
  ·have f3_:=hfree 3 kr0;simp only[ldΦ,got]at f3_;simp[go_sem]at f3_;unfold Oper.wp;simp[go_sem,execOp,Act.eval,↓IntWalk.iteOmega,f3_];exact⟨_,rfl,j5 _,by simp[ldΦ,upd]⟩
  ·have d1:=hdeep 1 kr0;simp only[ldΦ,got]at d1;have cke:=qf (w':=plus w2 x) ⟨x,rfl⟩ ek;unfold Oper.wp;simp[go_sem,execOp,Act.eval,↓IntWalk.iteOmega,d1,cke];exact⟨_,rfl,j5 _,by simp[ldΦ,upd]⟩
  ·obtain⟨b,e21,V,f2⟩:=hdeep 0 kr0;have e23:=hdeep 2 kr0;simp only[ldΦ,got]at e21 e23;simp at e21 e23;have hl:=a4B f2 kd;rw[hlk.it]at hl;unfold Oper.wp;simp[go_sem,execOp,Act.eval,↓IntWalk.iteOmega,e21,e23,hl,Result.andThen];exact⟨_,rfl,j5 _,by simp[ldΦ,upd]⟩
  ·have d3:=hdeep 3 kr0;simp only[ldΦ,got]at d3;unfold Oper.wp;simp[go_sem,execOp,Act.eval,↓IntWalk.iteOmega,d3];exact⟨_,rfl,j5 _,by simp[ldΦ,upd]⟩
  ·have d4:=hdeep 4 kr0;simp only[ldΦ,got]at d4;unfold Oper.wp;simp[go_sem,execOp,Act.eval,↓IntWalk.iteOmega,d4];exact⟨_,rfl,j5 _,by simp[ldΦ,upd]⟩
  ·have d4:=hdeep 4 kr0;simp only[ldΦ,got]at d4;unfold Oper.wp;simp[go_sem,execOp,Act.eval,↓IntWalk.iteOmega,d4];exact⟨_,rfl,j5 _,by simp[ldΦ,upd]⟩
  ·have d5:=hdeep 5 kr0;simp only[ldΦ,got]at d5;unfold Oper.wp;simp[go_sem,execOp,Act.eval,↓IntWalk.iteOmega,d5];exact⟨_,rfl,j5 _,by simp[ldΦ,upd]⟩
 case fin=>
  rintro t w3 x3 hΦ;have r5:=hΦ 5 dc0;have r6:=hΦ 6 dc0;have r7:=hΦ 7 dc0;simp only[ldΦ]at r5 r6 r7;simp only[zh,List.take_succ_cons,List.take_zero,List.drop_succ_cons,List.drop_zero,r5,r6,r7];simp only[Act.put];simp only[List.setIfInBounds_toArray,List.set_cons_succ,List.set_cons_zero];clear hΦ r5 r6 r7;have k2_:=i7 x3 k2;have k3_:=i7 x3 k3;clear k2 k3 k1 ek;obtain⟨k2,k3⟩:=And.intro k2_ k3_;go_wp2_with (first|(refine j6 rfl 34 (Operand.tmp 4) _ rfl (q+2) (qa sh0) rfl rfl _ _ (i7 sk9 k2) kr0 kr0 (qX _) ?_)|(refine j6 rfl 36 (Operand.tmp 5) _ rfl (q+3) [.int .i64 0,.int .i64 0,.int .i64 0] rfl rfl _ _ (l9 (i7 sk9 k3) om0) kr0 rfl (by intro v hv;simp at hv;subst hv;rfl) ?_));exact bodyPost_ret (qy Tryz.results9 _ _ (q+2) (q+3) 34 36 (qa sh0).toArray #[.int .i64 0,.int .i64 0,.int .i64 0] _ _ (.int .i64 2) rfl rfl rfl (l9 (p9 (i7 sk9 k2)) om0) (p9 (l9 (i7 sk9 k3) om0)) Tryz.underlying34 rfl kr0 Tryz.underlying36 rfl kr0) rfl (V9 hDE (by first|assumption|decide) (ql (ql (i9 (i9 (i9 x1 x2) x3) sk9) om0) om0))
end
end Go.Proofs.YtcekcihijdipoaaGreat
